"""The levels, against all levels that do, tried one by one; and mates of several versions."""

import itertools
import random
import unittest

from treegiven.plans import answer_look
from treegiven.state import House, Package
from treegiven.steps import least_levels, steps_now
from treegiven.versions import Need


def house_of(packages, note_levels=()):
    """A house of (version, group, needs, notes that wait), in whatever state a plan broken off left it."""
    house = House()
    for version, group, needs, waiting in packages:
        house.packages.append(Package(version, group, [Need(*one) for one in needs]))
        house.packages[-1].waiting = list(waiting)
    house.note_levels = list(note_levels)
    return house


def tried_raised(version, level):
    first, second, third = version
    if first == 0:
        return (0, second + 1, 0) if level == 3 else (0, second, third + 1)
    return [(first, second, third + 1), (first, second + 1, 0), (first + 1, 0, 0)][level - 1]


def tried_holds(kind, start, version):
    if version < start:
        return False
    if kind == 0:
        return version == start
    if kind == 1:
        return version[0] == start[0] and version[1] == start[1]
    if kind == 2:
        same_first = version[0] == start[0]
        same_second = start[0] != 0 or version[1] == start[1]
        same_third = start[0] != 0 or start[1] != 0 or version[2] == start[2]
        return same_first and same_second and same_third
    return True


def tried_mates(packages, number):
    group = packages[number][1]
    return [p for p in range(len(packages)) if p == number or (group and packages[p][1] == group)]


def tried_ahead(packages, levels, number):
    if levels[number] == 0:
        return packages[number][0]
    return tried_raised(max(packages[m][0] for m in tried_mates(packages, number)), levels[number])


def do(packages, note_levels, levels):
    """The document's sentence on levels that do, read word by word."""
    for number, (version, group, needs, waiting) in enumerate(packages):
        level = levels[number]
        mates = tried_mates(packages, number)
        if any(level < note_levels[one] for one in waiting):
            return False
        for on, kind, start in needs:
            if level < 1 and not tried_holds(kind, start, tried_ahead(packages, levels, on)):
                return False
        if level < 1 and len({packages[mate][0] for mate in mates}) > 1:
            return False
        if any(level < levels[mate] for mate in mates):
            return False
    return True


def made_up(chance):
    """A house of up to four packages; a need is never from a version above its package's."""
    versions = list(itertools.product(range(2), range(2), range(2)))
    note_levels = [chance.randrange(1, 4) for number in range(2)]
    packages = []
    for number in range(chance.randrange(1, 5)):
        needs = []
        for on in range(number):
            if chance.randrange(2):
                below = [one for one in versions if one <= packages[on][0]]
                start = packages[on][0] if chance.randrange(3) else chance.choice(below)
                needs.append((on, chance.randrange(4), start))
        waiting = [one for one in range(2) if chance.randrange(4) == 0]
        packages.append((chance.choice(versions), chance.randrange(4), needs, waiting))
    return packages, note_levels


class Least(unittest.TestCase):
    def test_against_all_levels_that_do(self):
        chance = random.Random(20)
        for turn in range(600):
            packages, note_levels = made_up(chance)
            doing = [one for one in itertools.product(range(4), repeat=len(packages)) if do(packages, note_levels, one)]
            least = tuple(min(column) for column in zip(*doing))
            self.assertIn(least, doing)
            house = house_of(packages, note_levels)
            self.assertEqual(tuple(least_levels(house)), least, (packages, note_levels))
            told = [(one.package, one.level, one.version) for one in steps_now(house)]
            awaited = [(p, least[p], tried_ahead(packages, least, p)) for p in range(len(least)) if least[p]]
            self.assertEqual(told, awaited, (packages, note_levels))


class MatesOfSeveralVersions(unittest.TestCase):
    def test_all_rise_from_the_highest(self):
        house = house_of([((1, 0, 0), 7, [], []), ((1, 4, 2), 7, [], []), ((1, 0, 9), 7, [], [])])
        self.assertEqual(answer_look(house), [3, 0, 1, 1, 4, 3, 1, 1, 1, 4, 3, 2, 1, 1, 4, 3])

    def test_with_a_note(self):
        house = house_of([((2, 0, 0), 7, [], []), ((1, 4, 2), 7, [], [0])], [2])
        self.assertEqual(answer_look(house), [2, 0, 2, 2, 1, 0, 1, 2, 2, 1, 0])

    def test_the_highest_decides_on_zero(self):
        house = house_of([((0, 9, 0), 7, [], [0]), ((1, 0, 0), 7, [], [])], [3])
        self.assertEqual(answer_look(house), [2, 0, 3, 2, 0, 0, 1, 3, 2, 0, 0])

    def test_others_stay(self):
        house = house_of([((1, 0, 0), 0, [], []), ((2, 0, 0), 0, [], []), ((3, 0, 0), 7, [], [])])
        self.assertEqual(answer_look(house), [0])

    def test_needs_on_them_break(self):
        needs = [(0, 2, (1, 0, 0))]
        house = house_of([((1, 0, 0), 7, [], []), ((2, 0, 0), 7, [], []), ((1, 0, 0), 0, needs, [])])
        self.assertEqual(answer_look(house), [3, 0, 1, 2, 0, 1, 1, 1, 2, 0, 1, 2, 1, 1, 0, 1])

    def test_need_that_has_lost_its_version_already(self):
        house = house_of([((2, 0, 0), 0, [], []), ((1, 0, 0), 0, [(0, 2, (1, 0, 0))], [])])
        self.assertEqual(answer_look(house), [1, 1, 1, 1, 0, 1])
        moved = steps_now(house)[0].needs[0]
        self.assertEqual((moved.package, moved.kind, moved.version), (0, 2, (2, 0, 0)))


if __name__ == "__main__":
    unittest.main()
