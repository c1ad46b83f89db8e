"""resolve: the highest versions that are found for the needs of a version that's out."""

import unittest

from tests.helper import DROP, PLAN, ask, found, given, last, listed, need, note, out, package, resolve, yank

MOST = 4294967295
ONE = (1, 0, 0)
MENDED = (1, 0, 1)
SECOND = (1, 1, 0)
BROKEN = (2, 0, 0)
# Package 0, told as 1.0.0, comes out as 1.0.1, 1.1.0 and 2.0.0 too; what hangs on it does not.
RISING = [call for level in (1, 2, 3) for call in (note(level, [0]), *given(0), DROP)]


class Resolve(unittest.TestCase):
    def test_no_needs(self):
        self.assertEqual(last(package(ONE), resolve(0, ONE)), [0])
        tree = [package(ONE), note(1, [0]), *given(0)]
        self.assertEqual(ask(*tree, resolve(0, ONE), resolve(0, MENDED))[-2:], [[0], [0]])

    def test_needs_in_their_order(self):
        tree = [package((number, 0, 5)) for number in range(1, 6)]
        needs = [need(number, 3, (0, 0, 0)) for number in (0, 1, 3, 4)]
        told = last(*tree, package(ONE, 0, needs), resolve(5, ONE))
        self.assertEqual(told, listed(*[found(number, (number + 1, 0, 5)) for number in (0, 1, 3, 4)]))

    def test_each_kind(self):
        for kind, highest in ((0, ONE), (1, MENDED), (2, SECOND), (3, BROKEN)):
            with self.subTest(kind=kind):
                tree = [package(ONE), package(ONE, 0, [need(0, kind, ONE)])]
                self.assertEqual(last(*tree, *RISING, resolve(1, ONE)), listed(found(0, highest)))

    def test_kind_two_with_zeros(self):
        rising = [call for level in (1, 3, 1) for call in (note(level, [0]), *given(0), DROP)]
        for version, highest in (((0, 2, 3), (0, 2, 4)), ((0, 0, 3), (0, 0, 3))):
            tree = [package(version), package(ONE, 0, [need(0, 2, version)])]
            self.assertEqual(last(*tree, *rising, resolve(1, ONE)), listed(found(0, highest)))

    def test_from_below_what_is_out(self):
        tree = [package((1, 5, 0)), package(ONE, 0, [need(0, 2, (1, 2, 7))]), note(2, [0]), *given(0)]
        self.assertEqual(last(*tree, resolve(1, ONE)), listed(found(0, (1, 6, 0))))

    def test_highest_by_its_numbers(self):
        tree = [package((1, 9, 8)), package(ONE, 0, [need(0, 3, (1, 9, 8))])]
        told = ask(*tree, *[note(1, [0]), *given(0)] * 2, resolve(1, ONE), note(2, [0]), *given(0), resolve(1, ONE))
        self.assertEqual(told[8], listed(found(0, (1, 9, 10))))
        self.assertEqual(told[-1], listed(found(0, (1, 10, 0))))

    def test_withdrawn_ones_are_left_out(self):
        tree = [package(ONE), package(ONE, 0, [need(0, 2, ONE)]), *RISING]
        told = ask(*tree, yank(0, MENDED), resolve(1, ONE), yank(0, SECOND), resolve(1, ONE), yank(0, ONE))
        self.assertEqual(told[-4:], [listed(found(0, SECOND)), [0], listed(found(0, ONE)), [-6]])

    def test_of_an_older_version(self):
        tree = [package(ONE), package(ONE, 0, [need(0, 2, ONE)]), note(3, [0]), *given(0, 1), note(2, [0]), *given(0)]
        told = ask(*tree, resolve(1, ONE), resolve(1, MENDED))
        self.assertEqual(told[-2:], [listed(found(0, ONE)), listed(found(0, (2, 1, 0)))])

    def test_changes_nothing(self):
        tree = [package(ONE), package(ONE, 0, [need(0, 2, ONE)]), note(1, [0]), PLAN]
        told = ask(*tree, *[resolve(1, ONE)] * 2, out(0), *[resolve(1, ONE)] * 2)
        self.assertEqual(told[-5:], [[1, 0, *ONE], [1, 0, *ONE], [0], [1, 0, *MENDED], [1, 0, *MENDED]])

    def test_not_out(self):
        tree = [package(ONE), package(BROKEN), note(1, [0]), PLAN]
        for version in (MENDED, SECOND, BROKEN, (0, 0, 0), (1, 0, MOST), (MOST, 0, 0)):
            self.assertEqual(last(*tree, resolve(0, version)), [-2])
        self.assertEqual(ask(*tree, DROP, resolve(0, MENDED), *given(0), resolve(0, MENDED))[-4::3], [[-2], [0]])

    def test_no_such_package(self):
        for number in (1, 2, 6, MOST):
            self.assertEqual(last(package(ONE), resolve(number, ONE)), [-2])
        self.assertEqual(last(resolve(0, (0, 0, 0))), [-2])

    def test_withdrawn(self):
        tree = [package(ONE), package(ONE, 0, [need(0, 3, ONE)]), note(1, [1]), *given(1), yank(1, ONE)]
        self.assertEqual(ask(*tree, resolve(1, ONE), resolve(1, MENDED))[-2:], [[-2], listed(found(0, ONE))])


if __name__ == "__main__":
    unittest.main()
