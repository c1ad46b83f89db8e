"""A house: the calls on it, each handed to what answers it."""

from treegiven.plans import answer_drop, answer_look, answer_out, answer_plan, answer_ready
from treegiven.reading import read_calls
from treegiven.released import answer_log, answer_resolve, answer_yank
from treegiven.state import House
from treegiven.tree import answer_note, answer_package, answer_tree, need_from

BEGINS = 0
PACKAGE = 1
NOTE = 2
LOOK = 3
PLAN = 4
READY = 5
OUT = 6
DROP = 7
YANK = 8
RESOLVE = 9
LOG = 10


def answer_to(house, call):
    """What one call answers, every call but begins."""
    if call.number == PACKAGE:
        needs = [need_from(numbers) for numbers in call.lists]
        return answer_package(house, tuple(call.whole[:3]), call.whole[3], needs)
    if call.number == NOTE:
        return answer_note(house, call.whole[0], call.lists[0])
    if call.number == LOOK:
        return answer_look(house)
    if call.number == PLAN:
        return answer_plan(house)
    if call.number == READY:
        return answer_ready(house)
    if call.number == OUT:
        return answer_out(house, call.whole[0])
    if call.number == DROP:
        return answer_drop(house)
    if call.number == YANK:
        return answer_yank(house, call.whole[0], tuple(call.whole[1:]))
    if call.number == RESOLVE:
        return answer_resolve(house, call.whole[0], tuple(call.whole[1:]))
    if call.number == LOG:
        return answer_log(house, call.whole[0])
    return answer_tree(house)


def answers(calls):
    """What the calls answer, in order: of each call how many numbers are answered, then these."""
    told = []
    house = House()
    for call in read_calls(calls):
        if call.number == BEGINS:
            house = House()
            answer = [0]
        else:
            answer = answer_to(house, call)
        told.append(len(answer))
        told.extend(answer)
    return told
