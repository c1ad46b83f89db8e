"""Calls as they lie in the list that is handed in, and what is answered, taken apart again."""

from treegiven.house import answers

BEGINS = [0, 0, 0]
LOOK = [3, 0, 0]
PLAN = [4, 0, 0]
READY = [5, 0, 0]
DROP = [7, 0, 0]
TREE = [11, 0, 0]


def package(version, group=0, needs=()):
    call = [1, 4, *version, group, len(needs)]
    for need in needs:
        call += [len(need), *need]
    return call


def note(level, packages):
    return [2, 1, level, 1, len(packages), *packages]


def need(on, kind, version):
    return (on, kind, *version)


def out(on):
    return [6, 1, on, 0]


def yank(on, version):
    return [8, 4, on, *version, 0]


def resolve(on, version):
    return [9, 4, on, *version, 0]


def log(on):
    return [10, 1, on, 0]


def given(*packages):
    """A plan, and these packages' steps out in this order."""
    return [PLAN, *[out(on) for on in packages]]


def joined(calls):
    return [number for call in calls for number in call]


def taken_apart(told):
    """One list for each call, by the counts that lie before the answers."""
    parts = []
    at = 0
    while at < len(told):
        count = told[at]
        parts.append(told[at + 1:at + 1 + count])
        assert count >= 1 and len(parts[-1]) == count, "a count doesn't fit what is behind it"
        at += 1 + count
    return parts


def ask(*calls):
    """What each of the calls answers."""
    parts = taken_apart(answers(joined(calls)))
    assert len(parts) == len(calls), "not one answer for each call"
    return parts


def last(*calls):
    """What the last of the calls answers."""
    return ask(*calls)[-1]


def step(on, level, version):
    """A step as look and plan tell it."""
    return [on, level, *version]


def came_out(version, notes=(), withdrawn=0):
    """A version as log tells it."""
    return [*version, withdrawn, len(notes), *notes]


def found(on, version):
    """What's found for a need, as resolve tells it."""
    return [on, *version]


def in_tree(version, waiting=0):
    """A package as tree tells it."""
    return [*version, waiting]


def listed(*parts):
    """How many they are, then they."""
    return [len(parts)] + joined(parts)
