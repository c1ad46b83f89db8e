"""The calls on a house and what they answer."""

from treegiven.reading import read_calls
from treegiven.state import House, Package
from treegiven.steps import NO_GROUP, ready_packages, steps_now
from treegiven.versions import ANY_LATER, BREAK, MEND, Need, holds

BEGINS = 0
PACKAGE = 1
NOTE = 2
LOOK = 3
PLAN = 4
READY = 5

ACCEPTED = 0
BAD_FORM = -1
UNKNOWN = -2
WRONG_TIME = -3
DOES_NOT_FIT = -5
FULL = -7

MOST_HANDED = 1000
MOST_NEEDS = 4
MOST_PACKAGES = 6
MOST_NOTES = 30


def rise(numbers):
    """Whether each number is above the one before it."""
    return all([numbers[at - 1] < numbers[at] for at in range(1, len(numbers))])


def need_from(numbers):
    return Need(numbers[0], numbers[1], tuple(numbers[2:5]))


def need_is_formed(house, need):
    if need.package >= len(house.packages) or need.kind > ANY_LATER:
        return False
    return max(need.version) <= MOST_HANDED


def needs_are_formed(house, needs):
    if not all([need_is_formed(house, need) for need in needs]):
        return False
    return rise([need.package for need in needs])


def fits(house, package):
    """Whether the tree meets the new package's needs and its group is of its version."""
    if not all([holds(need, house.packages[need.package].version) for need in package.needs]):
        return False
    if package.group == NO_GROUP:
        return True
    return all([other.version == package.version for other in house.packages if other.group == package.group])


def package_refusal(house, package):
    if max(package.version) > MOST_HANDED or package.group > MOST_HANDED or len(package.needs) > MOST_NEEDS:
        return BAD_FORM
    if len(house.plan) > 0:
        return WRONG_TIME
    if len(house.packages) >= MOST_PACKAGES:
        return FULL
    if not needs_are_formed(house, package.needs):
        return UNKNOWN
    if not fits(house, package):
        return DOES_NOT_FIT
    return ACCEPTED


def answer_package(house, version, group, needs):
    package = Package(version, group, needs)
    refusal = package_refusal(house, package)
    if refusal != ACCEPTED:
        return [refusal]
    house.packages.append(package)
    return [len(house.packages) - 1]


def note_refusal(house, level, numbers):
    if level < MEND or level > BREAK or len(numbers) == 0 or not rise(numbers):
        return BAD_FORM
    if max(numbers) >= len(house.packages):
        return UNKNOWN
    if len(house.note_levels) >= MOST_NOTES:
        return FULL
    return ACCEPTED


def answer_note(house, level, numbers):
    refusal = note_refusal(house, level, numbers)
    if refusal != ACCEPTED:
        return [refusal]
    note = len(house.note_levels)
    house.note_levels.append(level)
    for number in numbers:
        house.packages[number].waiting.append(note)
    return [note]


def steps_told(steps):
    told = [len(steps)]
    for step in steps:
        told.extend([step.package, step.level])
        told.extend(step.version)
    return told


def answer_look(house):
    if len(house.plan) > 0:
        return [WRONG_TIME]
    return steps_told(steps_now(house))


def answer_plan(house):
    if len(house.plan) > 0:
        return [WRONG_TIME]
    house.plan = steps_now(house)
    return steps_told(house.plan)


def answer_ready(house):
    packages = ready_packages(house.plan)
    return [len(packages)] + packages


def answer_to(house, call):
    """What one call answers, every call but begins."""
    if call.number == PACKAGE:
        needs = [need_from(numbers) for numbers in call.lists]
        return answer_package(house, tuple(call.whole[:3]), call.whole[3], needs)
    if call.number == NOTE:
        return answer_note(house, call.whole[0], call.lists[0])
    if call.number == LOOK:
        return answer_look(house)
    if call.number == PLAN:
        return answer_plan(house)
    if call.number == READY:
        return answer_ready(house)
    raise NotImplementedError("this call is not built yet")


def answers(calls):
    """What the calls answer, in order: of each call how many numbers are answered, then these."""
    told = []
    house = House()
    for call in read_calls(calls):
        if call.number == BEGINS:
            house = House()
            answer = [0]
        else:
            answer = answer_to(house, call)
        told.append(len(answer))
        told.extend(answer)
    return told
