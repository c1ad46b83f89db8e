"""Long lists of calls, against the document read a second time, and what holds at every moment."""

import functools
import itertools
import random
import unittest

from tests.helper import BEGINS, DROP, LOOK, PLAN, READY, TREE
from tests.helper import ask, came_out, found, given, in_tree, joined, listed, log, need, note, out, package, resolve
from tests.helper import step, taken_apart, yank
from tests.test_levels import do, tried_ahead, tried_holds
from treegiven.house import answers

ONE = (1, 0, 0)
CALLS = 60


@functools.cache
def by_sum(count):
    """All levels of so many packages; whichever of them do, the least comes first."""
    return sorted(itertools.product(range(4), repeat=count), key=sum)


class Reading:
    """The document's words once more: the tree as tuples, what's out as one list over all packages."""

    def __init__(self):
        self.tree = []
        self.note_levels = []
        self.out = []
        self.withdrawn = set()
        self.plan = {}

    def package(self, version, group=0, needs=()):
        if max(*version, group) > 1000 or len(needs) > 4:
            return [-1]
        if self.plan:
            return [-3]
        if len(self.tree) == 6:
            return [-7]
        on = [one[0] for one in needs]
        formed = all(one[0] < len(self.tree) and one[1] <= 3 and max(one[2:]) <= 1000 for one in needs)
        if not formed or on != sorted(set(on)):
            return [-2]
        needs = [(one[0], one[1], tuple(one[2:])) for one in needs]
        if not all(tried_holds(kind, start, self.tree[p][0]) for p, kind, start in needs):
            return [-5]
        if group and any(one[1] == group and one[0] != version for one in self.tree):
            return [-5]
        self.tree.append((version, group, needs, ()))
        self.out.append((len(self.tree) - 1, version, needs, ()))
        return [len(self.tree) - 1]

    def note(self, level, packages):
        if level not in (1, 2, 3) or not packages or packages != sorted(set(packages)):
            return [-1]
        if packages[-1] >= len(self.tree):
            return [-2]
        if len(self.note_levels) == 30:
            return [-7]
        for p in packages:
            version, group, needs, waiting = self.tree[p]
            self.tree[p] = (version, group, needs, (*waiting, len(self.note_levels)))
        self.note_levels.append(level)
        return [len(self.note_levels) - 1]

    def steps(self):
        levels = next(one for one in by_sum(len(self.tree)) if do(self.tree, self.note_levels, one))
        ahead = [tried_ahead(self.tree, levels, p) for p in range(len(levels))]
        steps = {}
        for p, (version, group, needs, waiting) in enumerate(self.tree):
            moved = [(q, kind, start if tried_holds(kind, start, ahead[q]) else ahead[q]) for q, kind, start in needs]
            if levels[p]:
                steps[p] = (levels[p], ahead[p], moved, waiting)
        return steps

    def look(self):
        if self.plan:
            return [-3]
        return listed(*[step(p, one[0], one[1]) for p, one in self.steps().items()])

    def make_plan(self):
        told = self.look()
        if told[0] >= 0:
            self.plan = self.steps()
        return told

    def can_come_out(self, p):
        return not any(q in self.plan for q, kind, start in self.plan[p][2])

    def ready(self):
        return listed(*[[p] for p in self.plan if self.can_come_out(p)])

    def give_out(self, p):
        if p not in self.plan:
            return [-4]
        if not self.can_come_out(p):
            return [-5]
        level, version, needs, notes = self.plan.pop(p)
        self.out.append((p, version, needs, notes))
        later = tuple(one for one in self.tree[p][3] if one not in notes)
        self.tree[p] = (version, self.tree[p][1], needs, later)
        return [len(self.plan)]

    def drop(self):
        if not self.plan:
            return [-3]
        left = listed(*[[p] for p in self.plan])
        self.plan = {}
        return left

    def left(self):
        return [one for one in self.out if one[:2] not in self.withdrawn]

    def finds(self, on, kind, start):
        return {version for p, version, needs, notes in self.left() if p == on and tried_holds(kind, start, version)}

    def is_left(self, p, version):
        return any(one[:2] == (p, version) for one in self.left())

    def yank(self, p, version):
        if not self.is_left(p, version):
            return [-2]
        if self.tree[p][0] == version:
            return [-4]
        wanted = [one for release in self.left() for one in release[2] if one[0] == p]
        if any(not self.finds(*one) - {version} for one in wanted):
            return [-6]
        self.withdrawn.add((p, version))
        return [0]

    def resolve(self, p, version):
        if not self.is_left(p, version):
            return [-2]
        needs = next(one[2] for one in self.left() if one[:2] == (p, version))
        return listed(*[found(one[0], max(self.finds(*one))) for one in needs])

    def log(self, p):
        if p >= len(self.tree):
            return [-2]
        versions = [one for one in self.out if one[0] == p]
        return listed(*[came_out(one[1], one[3], int(one[:2] in self.withdrawn)) for one in versions])

    def tell_tree(self):
        return listed(*[in_tree(one[0], len(one[3])) for one in self.tree])


class Line:
    """A line that chance makes up, with what the second reading answers to each of its calls."""

    def __init__(self, chance):
        self.chance = chance
        self.reading = Reading()
        self.calls = []
        self.told = []

    def add(self, call, told):
        self.calls.append(call)
        self.told.append(told)

    def some_package(self):
        if self.chance.randrange(25) == 0:
            return self.chance.choice((6, 1000, 4294967295))
        return self.chance.randrange(max(len(self.reading.tree), 1))

    def some_version(self, p):
        ours = [one[1] for one in self.reading.out if one[0] == p]
        if not ours or self.chance.randrange(12) == 0:
            return tuple(self.chance.randrange(3) for number in range(3))
        return self.chance.choice(ours)

    def add_package(self):
        tree = self.reading.tree
        group = self.chance.choice((0, 0, 0, 1, 2))
        mates = [one[0] for one in tree if one[1] == group and group]
        version = mates[0] if mates else tuple(self.chance.randrange(3) for number in range(3))
        needs = []
        for on in range(len(tree)):
            if self.chance.randrange(2):
                start = tree[on][0] if self.chance.randrange(6) else self.some_version(on)
                needs.append((on, self.chance.randrange(4), *start))
        self.add(package(version, group, needs), self.reading.package(version, group, needs))

    def add_note(self):
        level = self.chance.choice((1, 1, 1, 2, 2, 3, 3, 0)) if self.chance.randrange(4) == 0 else 1
        packages = sorted({self.some_package() for number in range(self.chance.randrange(1, 4))})
        self.add(note(level, packages), self.reading.note(level, packages))

    def add_out(self):
        planned = sorted(self.reading.plan)
        p = self.chance.choice(planned) if planned and self.chance.randrange(8) else self.some_package()
        self.add(out(p), self.reading.give_out(p))

    def add_yank(self):
        p = self.some_package()
        version = self.some_version(p)
        self.add(yank(p, version), self.reading.yank(p, version))

    def add_resolve(self):
        p = self.some_package()
        version = self.some_version(p)
        self.add(resolve(p, version), self.reading.resolve(p, version))

    def add_log(self):
        p = self.some_package()
        self.add(log(p), self.reading.log(p))

    def add_begins(self):
        self.reading = Reading()
        self.add(BEGINS, [0])

    def add_some(self):
        """One more call: plans are made often enough and dropped seldom enough to be given out."""
        reading = self.reading
        plain = (
            lambda: self.add(LOOK, reading.look()),
            lambda: self.add(PLAN, reading.make_plan()),
            lambda: self.add(READY, reading.ready()),
            lambda: self.add(DROP, reading.drop()),
            lambda: self.add(TREE, reading.tell_tree()),
        )
        kinds = (*plain, self.add_package, self.add_note, self.add_out, self.add_yank, self.add_resolve, self.add_log)
        often = (1, 1, 2, 1, 2, 1, 3, 12, 5, 4, 3) if reading.plan else (2, 8, 1, 1, 2, 4, 8, 1, 5, 4, 3)
        if self.chance.randrange(150) == 0:
            self.add_begins()
        else:
            self.chance.choices(kinds, often)[0]()


def made_up(seed, count):
    line = Line(random.Random(seed))
    for number in range(line.chance.randrange(1, 7)):
        line.add_package()
    while len(line.calls) < count:
        line.add_some()
    return line


def apart(told, width):
    """What's told behind a count, in parts of one width."""
    return [tuple(told[at:at + width]) for at in range(1, len(told), width)]


def logged(told):
    """What log tells: each version, whether it's withdrawn, its notes."""
    versions = []
    at = 1
    while at < len(told):
        count = told[at + 4]
        versions.append((tuple(told[at:at + 3]), told[at + 3], told[at + 5:at + 5 + count]))
        at += 5 + count
    assert len(versions) == told[0], "not as many versions as are told"
    return versions


class AgainstTheSecondReading(unittest.TestCase):
    def test_lines_of_sixty_calls(self):
        seen = set()
        for seed in range(300):
            line = made_up(seed, CALLS)
            self.assertEqual(ask(*line.calls), line.told, (seed, line.calls))
            seen |= {(call[0], told[0]) for call, told in zip(line.calls, line.told) if told[0] < 0}
        # The lines are only worth something if they get to every refusal that these calls have.
        wanted = {(6, -4), (6, -5), (7, -3), (8, -2), (8, -4), (8, -6), (9, -2), (10, -2), (3, -3), (4, -3)}
        self.assertEqual(wanted - seen, set())

    def test_lines_of_few_calls(self):
        for seed in range(200):
            line = made_up(1000 + seed, 1 + seed % 20)
            self.assertEqual(ask(*line.calls), line.told, (seed, line.calls))


class AtEveryMoment(unittest.TestCase):
    """What the document says in bold, seen through the calls alone."""

    def lines(self):
        for seed in range(60):
            yield [call for call in made_up(2000 + seed, 50).calls if call != BEGINS]

    def logs(self, calls):
        count = ask(*calls, TREE)[-1][0]
        return [logged(told) for told in ask(*calls, *[log(p) for p in range(count)])[len(calls):]]

    def test_what_is_out_is_whole(self):
        for calls in self.lines():
            for end in range(0, len(calls) + 1, 7):
                logs = self.logs(calls[:end])
                for p, versions in enumerate(logs):
                    for version in [one[0] for one in versions if not one[1]]:
                        told = ask(*calls[:end], resolve(p, version))[-1]
                        self.assertEqual(len(told), 1 + 4 * told[0])
                        for on, *highest in apart(told, 4):
                            self.assertIn((tuple(highest), 0), [one[:2] for one in logs[on]])

    def test_each_note_is_told_once(self):
        for calls in self.lines():
            told = ask(*calls)
            tree = apart(ask(*calls, TREE)[-1], 4)
            for p, versions in enumerate(self.logs(calls)):
                notes = [one for version in versions for one in version[2]]
                about = [ours[0] for call, ours in zip(calls, told) if call[0] == 2 and ours[0] >= 0 and p in call[5:]]
                self.assertEqual(sorted(set(notes)), sorted(notes))
                self.assertLessEqual(set(notes), set(about))
                self.assertEqual(len(notes) + tree[p][3], len(about))

    def test_versions_rise_and_the_tree_has_the_last(self):
        for calls in self.lines():
            tree = apart(ask(*calls, TREE)[-1], 4)
            for p, versions in enumerate(self.logs(calls)):
                self.assertEqual([one[0] for one in versions], sorted({one[0] for one in versions}))
                self.assertEqual((versions[-1][0], versions[-1][1]), (tree[p][:3], 0))

    def test_a_plan_comes_out_whole_in_some_order(self):
        for calls in self.lines():
            line = [*calls, DROP, PLAN]
            while ask(*line, READY)[-1] != [0]:
                line.append(out(ask(*line, READY)[-1][-1]))
            told = ask(*line, DROP, LOOK)
            self.assertEqual(told[-2], [-3])
            waiting = [one[3] for one in apart(ask(*line, TREE)[-1], 4)]
            self.assertEqual(waiting, [0] * len(waiting))
            self.assertEqual(told[-1], [0])

    def test_a_refusal_is_alone_and_below_nought(self):
        for calls in self.lines():
            for told in ask(*calls):
                self.assertTrue(told[0] >= 0 or (len(told) == 1 and -7 <= told[0]))
                self.assertTrue(all(number >= 0 for number in told[1:]))
                self.assertEqual({number.__class__ for number in told}, {int})

    def test_after_a_refusal_all_is_as_it_was(self):
        for calls in self.lines():
            told = ask(*calls)
            accepted = [at for at in range(len(calls)) if told[at][0] >= 0]
            self.assertEqual(ask(*[calls[at] for at in accepted]), [told[at] for at in accepted])


class ALongLine(unittest.TestCase):
    """Sixty calls, six packages, thirty notes, plans given out in full and in part."""

    CALLS = [
        package(ONE),
        package(ONE, 7, [need(0, 2, ONE)]),
        package((0, 3, 1), 0, [need(0, 0, ONE), need(1, 1, ONE)]),
        package(ONE, 7),
        package((2, 2, 2), 0, [need(2, 2, (0, 3, 1)), need(3, 3, ONE)]),
        package((0, 0, 9), 0, [need(4, 2, (2, 2, 2))]),
        *[note(1 + number % 2, [number % 6]) for number in range(10)],
        *given(0, 1, 2, 3, 4, 5),
        *[note(3 if number == 4 else 1, [number % 3, 3 + number % 3]) for number in range(10)],
        *given(0, 1),
        DROP,
        *[note(1, [number % 2]) for number in range(10)],
        *given(0, 1, 2, 3),
        yank(0, ONE),
        yank(1, ONE),
        DROP,
        log(0),
        log(4),
        TREE,
        resolve(4, (2, 2, 3)),
        LOOK,
    ]

    def test_what_it_answers(self):
        told = ask(*self.CALLS)
        self.assertEqual(len(told), CALLS)
        self.assertEqual(told[:16], [[p] for p in range(6)] + [[number] for number in range(10)])
        self.assertEqual(told[16], listed(
            step(0, 1, (1, 0, 1)),
            step(1, 2, (1, 1, 0)),
            step(2, 1, (0, 3, 2)),
            step(3, 2, (1, 1, 0)),
            step(4, 1, (2, 2, 3)),
            step(5, 2, (0, 0, 10)),
        ))
        self.assertEqual(told[17:23], [[5], [4], [3], [2], [1], [0]])
        self.assertEqual(told[23:33], [[number] for number in range(10, 20)])
        self.assertEqual(told[33], listed(
            step(0, 1, (1, 0, 2)),
            step(1, 3, (2, 0, 0)),
            step(2, 1, (0, 3, 3)),
            step(3, 3, (2, 0, 0)),
            step(4, 3, (3, 0, 0)),
            step(5, 1, (0, 0, 11)),
        ))
        self.assertEqual(told[34:37], [[5], [4], [4, 2, 3, 4, 5]])
        self.assertEqual(told[37:47], [[number] for number in range(20, 30)])
        self.assertEqual(told[47], listed(
            step(0, 1, (1, 0, 3)),
            step(1, 1, (2, 0, 1)),
            step(2, 1, (0, 3, 3)),
            step(3, 1, (2, 0, 1)),
            step(4, 3, (3, 0, 0)),
            step(5, 1, (0, 0, 11)),
        ))
        self.assertEqual(told[48:55], [[5], [4], [3], [2], [-6], [-6], [2, 4, 5]])
        self.assertEqual(told[55], listed(
            came_out(ONE),
            came_out((1, 0, 1), [0, 6]),
            came_out((1, 0, 2), [10, 13, 16, 19]),
            came_out((1, 0, 3), [20, 22, 24, 26, 28]),
        ))
        self.assertEqual(told[56], listed(came_out((2, 2, 2)), came_out((2, 2, 3), [4])))
        self.assertEqual(told[57], listed(
            in_tree((1, 0, 3)),
            in_tree((2, 0, 1)),
            in_tree((0, 3, 3)),
            in_tree((2, 0, 1)),
            in_tree((2, 2, 3), 3),
            in_tree((0, 0, 10), 3),
        ))
        self.assertEqual(told[58], listed(found(2, (0, 3, 3)), found(3, (2, 0, 1))))
        self.assertEqual(told[59], listed(step(4, 3, (3, 0, 0)), step(5, 1, (0, 0, 11))))

    def test_the_list_handed_in_stays_and_twice_is_the_same(self):
        lines = [self.CALLS, *[made_up(3000 + seed, CALLS).calls for seed in range(20)]]
        for calls in lines:
            handed = joined(calls)
            kept = list(handed)
            first = answers(handed)
            self.assertEqual(handed, kept)
            self.assertEqual(answers(handed), first)
            self.assertEqual(len(taken_apart(first)), len(calls))


class BeginsAnew(unittest.TestCase):
    AFTER = [
        TREE, READY, DROP, out(0), log(0), resolve(0, ONE), yank(0, ONE), LOOK,
        package(ONE, 7), TREE, log(0), note(1, [0]), package(ONE, 7), *given(0, 1), log(0), yank(0, ONE), log(0), LOOK,
    ]

    def check(self, *before):
        told = ask(*before, BEGINS, *self.AFTER)
        self.assertEqual(told[len(before)], [0])
        self.assertEqual(told[len(before) + 1:], ask(*self.AFTER))

    def test_behind_out(self):
        tree = [package(ONE, 7), package(ONE, 7), note(3, [0])]
        self.check(*tree, *given(0))
        self.check(*tree, *given(0, 1))

    def test_behind_drop(self):
        self.check(package(ONE, 7), package(ONE, 7), note(3, [0]), *given(1), DROP)

    def test_behind_yank(self):
        self.check(package(ONE), note(1, [0]), *given(0), yank(0, ONE))
        self.check(package(ONE), note(1, [0]), *given(0), yank(0, ONE), note(1, [0]), PLAN)

    def test_behind_made_up_lines(self):
        for seed in range(30):
            self.check(*made_up(4000 + seed, CALLS - len(self.AFTER) - 1).calls)


if __name__ == "__main__":
    unittest.main()
