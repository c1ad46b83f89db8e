"""Reading the calls that lie one behind another in one list."""


class Call:
    """A call: its number, its whole numbers, its lists."""

    def __init__(self, number, whole, lists):
        self.number = number
        self.whole = whole
        self.lists = lists


def counted(numbers, at):
    """The numbers that lie behind their count, which is at this place."""
    return numbers[at + 1:at + 1 + numbers[at]]


def read_lists(numbers, at):
    """The lists that lie behind their count, which is at this place."""
    lists = []
    place = at + 1
    while len(lists) < numbers[at]:
        lists.append(counted(numbers, place))
        place = place + 1 + numbers[place]
    return lists


def read_call(numbers, at):
    """The call that begins at this place."""
    whole = counted(numbers, at + 1)
    return Call(numbers[at], whole, read_lists(numbers, at + 2 + len(whole)))


def call_length(call):
    """How many numbers the call takes in the list: each count and the call's number among them."""
    return 3 + len(call.whole) + sum([1 + len(one) for one in call.lists])


def read_calls(numbers):
    """All calls of the list, in order."""
    calls = []
    at = 0
    while at < len(numbers):
        call = read_call(numbers, at)
        calls.append(call)
        at = at + call_length(call)
    return calls
