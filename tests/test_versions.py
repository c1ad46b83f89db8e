"""Versions, how they're raised, and which of them a need holds."""

import unittest

from tests.helper import LOOK, last, need, note, package, step, listed
from treegiven.versions import Need, holds, raised

RAISED = [
    ((1, 2, 3), 1, (1, 2, 4)),
    ((1, 2, 3), 2, (1, 3, 0)),
    ((1, 2, 3), 3, (2, 0, 0)),
    ((1, 0, 0), 1, (1, 0, 1)),
    ((1, 0, 0), 2, (1, 1, 0)),
    ((1, 0, 0), 3, (2, 0, 0)),
    ((0, 2, 3), 1, (0, 2, 4)),
    ((0, 2, 3), 2, (0, 2, 4)),
    ((0, 2, 3), 3, (0, 3, 0)),
    ((0, 0, 0), 1, (0, 0, 1)),
    ((0, 0, 0), 2, (0, 0, 1)),
    ((0, 0, 0), 3, (0, 1, 0)),
    ((0, 0, 5), 3, (0, 1, 0)),
    ((1000, 1000, 1000), 1, (1000, 1000, 1001)),
    ((1000, 1000, 1000), 2, (1000, 1001, 0)),
    ((1000, 1000, 1000), 3, (1001, 0, 0)),
    ((0, 1000, 1000), 2, (0, 1000, 1001)),
    ((0, 1000, 1000), 3, (0, 1001, 0)),
]

# kind, from which version, versions that are held, versions that aren't
HELD = [
    (0, (1, 2, 3), [(1, 2, 3)], [(1, 2, 2), (1, 2, 4), (1, 3, 3), (2, 2, 3), (0, 2, 3), (1, 1, 3)]),
    (0, (0, 0, 0), [(0, 0, 0)], [(0, 0, 1)]),
    (1, (1, 2, 3), [(1, 2, 3), (1, 2, 4), (1, 2, 1000)], [(1, 2, 2), (1, 3, 0), (1, 3, 3), (2, 2, 3), (1, 1, 1000)]),
    (1, (0, 0, 3), [(0, 0, 3), (0, 0, 4)], [(0, 0, 2), (0, 1, 0), (1, 0, 3)]),
    (2, (1, 2, 3), [(1, 2, 3), (1, 2, 4), (1, 3, 0), (1, 1000, 1000)], [(1, 2, 2), (1, 1, 9), (2, 0, 0), (2, 2, 3)]),
    (2, (1, 0, 0), [(1, 0, 0), (1, 0, 1), (1, 1, 0)], [(0, 1000, 1000), (2, 0, 0)]),
    (2, (0, 2, 3), [(0, 2, 3), (0, 2, 4), (0, 2, 1000)], [(0, 2, 2), (0, 3, 0), (0, 3, 3), (1, 0, 0), (1, 2, 3)]),
    (2, (0, 2, 0), [(0, 2, 0), (0, 2, 1)], [(0, 1, 1000), (0, 3, 0)]),
    (2, (0, 0, 3), [(0, 0, 3)], [(0, 0, 2), (0, 0, 4), (0, 1, 0), (0, 1, 3), (1, 0, 3)]),
    (2, (0, 0, 0), [(0, 0, 0)], [(0, 0, 1), (0, 1, 0), (1, 0, 0)]),
    (3, (1, 2, 3), [(1, 2, 3), (1, 2, 4), (1, 3, 0), (2, 0, 0), (1000, 1000, 1000)], [(1, 2, 2), (1, 1, 4), (0, 3, 4)]),
    (3, (0, 0, 0), [(0, 0, 0), (0, 0, 1), (1000, 0, 0)], []),
]


class Raising(unittest.TestCase):
    def test_raised(self):
        for version, level, higher in RAISED:
            with self.subTest(version=version, level=level):
                self.assertEqual(raised(version, level), higher)

    def test_raised_by_a_note(self):
        for version, level, higher in RAISED:
            with self.subTest(version=version, level=level):
                told = last(package(version), note(level, [0]), LOOK)
                self.assertEqual(told, listed(step(0, level, higher)))


class Holding(unittest.TestCase):
    def check(self, kind, start, version, held):
        with self.subTest(kind=kind, start=start, version=version):
            self.assertIs(holds(Need(0, kind, start), version), held)
            told = last(package(version), package((1, 0, 0), 0, [need(0, kind, start)]))
            self.assertEqual(told, [1] if held else [-5])

    def test_held(self):
        for kind, start, held, others in HELD:
            for version in held:
                self.check(kind, start, version, True)

    def test_not_held(self):
        for kind, start, held, others in HELD:
            for version in others:
                self.check(kind, start, version, False)


if __name__ == "__main__":
    unittest.main()
