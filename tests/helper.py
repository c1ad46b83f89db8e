"""Calls as they lie in the list that is handed in, and what is answered, taken apart again."""

from treegiven.house import answers

BEGINS = [0, 0, 0]
LOOK = [3, 0, 0]
PLAN = [4, 0, 0]
READY = [5, 0, 0]


def package(version, group=0, needs=()):
    call = [1, 4, *version, group, len(needs)]
    for need in needs:
        call += [len(need), *need]
    return call


def note(level, packages):
    return [2, 1, level, 1, len(packages), *packages]


def need(on, kind, version):
    return (on, kind, *version)


def joined(calls):
    return [number for call in calls for number in call]


def taken_apart(told):
    """One list for each call, by the counts that lie before the answers."""
    parts = []
    at = 0
    while at < len(told):
        count = told[at]
        parts.append(told[at + 1:at + 1 + count])
        assert count >= 1 and len(parts[-1]) == count, "a count doesn't fit what is behind it"
        at += 1 + count
    return parts


def ask(*calls):
    """What each of the calls answers."""
    parts = taken_apart(answers(joined(calls)))
    assert len(parts) == len(calls), "not one answer for each call"
    return parts


def last(*calls):
    """What the last of the calls answers."""
    return ask(*calls)[-1]


def step(on, level, version):
    """A step as look and plan tell it."""
    return [on, level, *version]


def told_steps(*steps):
    return [len(steps)] + joined(steps)
