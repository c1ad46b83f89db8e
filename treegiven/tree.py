"""The calls on the tree: package, note, tree."""

from treegiven.refusals import ACCEPTED, BAD_FORM, DOES_NOT_FIT, FULL, UNKNOWN, WRONG_TIME
from treegiven.state import Package
from treegiven.steps import NO_GROUP
from treegiven.versions import ANY_LATER, BREAK, MEND, Need, holds

MOST_HANDED = 1000
MOST_NEEDS = 4
MOST_PACKAGES = 6
MOST_NOTES = 30


def rise(numbers):
    """Whether each number is above the one before it."""
    return all([numbers[at - 1] < numbers[at] for at in range(1, len(numbers))])


def need_from(numbers):
    return Need(numbers[0], numbers[1], tuple(numbers[2:5]))


def need_is_formed(house, need):
    if need.package >= len(house.packages) or need.kind > ANY_LATER:
        return False
    return max(need.version) <= MOST_HANDED


def needs_are_formed(house, needs):
    if not all([need_is_formed(house, need) for need in needs]):
        return False
    return rise([need.package for need in needs])


def fits(house, package):
    """Whether the tree meets the new package's needs and its group is of its version."""
    if not all([holds(need, house.packages[need.package].version) for need in package.needs]):
        return False
    if package.group == NO_GROUP:
        return True
    return all([other.version == package.version for other in house.packages if other.group == package.group])


def package_refusal(house, package):
    if max(package.version) > MOST_HANDED or package.group > MOST_HANDED or len(package.needs) > MOST_NEEDS:
        return BAD_FORM
    if len(house.plan) > 0:
        return WRONG_TIME
    if len(house.packages) >= MOST_PACKAGES:
        return FULL
    if not needs_are_formed(house, package.needs):
        return UNKNOWN
    if not fits(house, package):
        return DOES_NOT_FIT
    return ACCEPTED


def answer_package(house, version, group, needs):
    package = Package(version, group, needs)
    refusal = package_refusal(house, package)
    if refusal != ACCEPTED:
        return [refusal]
    house.packages.append(package)
    return [len(house.packages) - 1]


def note_refusal(house, level, numbers):
    if level < MEND or level > BREAK or len(numbers) == 0 or not rise(numbers):
        return BAD_FORM
    if max(numbers) >= len(house.packages):
        return UNKNOWN
    if len(house.note_levels) >= MOST_NOTES:
        return FULL
    return ACCEPTED


def answer_note(house, level, numbers):
    refusal = note_refusal(house, level, numbers)
    if refusal != ACCEPTED:
        return [refusal]
    note = len(house.note_levels)
    house.note_levels.append(level)
    for number in numbers:
        house.packages[number].waiting.append(note)
    return [note]


def answer_tree(house):
    told = [len(house.packages)]
    for package in house.packages:
        told.extend(package.version)
        told.append(len(package.waiting))
    return told
