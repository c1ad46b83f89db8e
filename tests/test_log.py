"""log: what's out of a package, in order; tree: its packages' versions, and how many notes wait."""

import unittest

from tests.helper import BEGINS, DROP, PLAN, TREE
from tests.helper import ask, came_out, given, in_tree, last, listed, log, note, out, package, yank

MOST = 4294967295
ONE = (1, 0, 0)
MENDED = (1, 0, 1)


class Log(unittest.TestCase):
    def test_the_first_version(self):
        self.assertEqual(ask(package((0, 0, 0)), package((7, 8, 9), 3), log(0), log(1))[-2:], [
            [1, 0, 0, 0, 0, 0],
            [1, 7, 8, 9, 0, 0],
        ])

    def test_all_versions_in_order(self):
        rising = [call for level in (1, 2, 3) for call in (note(level, [0]), *given(0))]
        told = last(package(ONE), *rising, log(0))
        self.assertEqual(told, [4, 1, 0, 0, 0, 0, 1, 0, 1, 0, 1, 0, 1, 1, 0, 0, 1, 1, 2, 0, 0, 0, 1, 2])

    def test_withdrawn_and_notes(self):
        tree = [package(ONE), note(1, [0]), note(1, [0]), *given(0), note(2, [0]), *given(0), yank(0, MENDED)]
        self.assertEqual(last(*tree, log(0)), [3, 1, 0, 0, 0, 0, 1, 0, 1, 1, 2, 0, 1, 1, 1, 0, 0, 1, 2])

    def test_thirty_notes(self):
        told = last(package(ONE), *[note(1, [0])] * 30, *given(0), log(0))
        self.assertEqual(told, listed(came_out(ONE), came_out(MENDED, list(range(30)))))

    def test_planned_is_not_out(self):
        tree = [package(ONE), note(1, [0]), PLAN]
        self.assertEqual(ask(*tree, log(0), DROP, log(0))[-3::2], [listed(came_out(ONE))] * 2)

    def test_no_such_package(self):
        for number in (1, 6, MOST):
            self.assertEqual(last(package(ONE), log(number)), [-2])
        self.assertEqual(last(log(0)), [-2])
        self.assertEqual(last(package(ONE), BEGINS, log(0)), [-2])


class Tree(unittest.TestCase):
    def test_no_packages(self):
        self.assertEqual(last(TREE), [0])

    def test_a_refused_package_is_not_there(self):
        self.assertEqual(last(package((1001, 0, 0)), TREE), [0])

    def test_several(self):
        tree = [package((1, 2, 3)), package((0, 0, 4), 7), package((1000, 0, 0)), note(1, [0, 2]), note(3, [2])]
        self.assertEqual(last(*tree, TREE), [3, 1, 2, 3, 1, 0, 0, 4, 0, 1000, 0, 0, 2])

    def test_six(self):
        told = last(*[package(ONE)] * 6, *[note(1, list(range(6)))] * 30, TREE)
        self.assertEqual(told, listed(*[in_tree(ONE, 30)] * 6))

    def test_a_plan_leaves_it(self):
        tree = [package(ONE), package(ONE), note(1, [0, 1]), PLAN]
        waiting = listed(in_tree(ONE, 1), in_tree(ONE, 1))
        self.assertEqual(ask(*tree, TREE, DROP, TREE)[-3::2], [waiting, waiting])

    def test_behind_out_and_a_later_note(self):
        tree = [package(ONE), package(ONE), note(1, [0, 1]), PLAN, note(1, [0]), out(0)]
        self.assertEqual(last(*tree, TREE), listed(in_tree(MENDED, 1), in_tree(ONE, 1)))


if __name__ == "__main__":
    unittest.main()
