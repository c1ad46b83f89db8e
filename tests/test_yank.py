"""yank: what's withdrawn behind it, and each refusal by each of its causes."""

import unittest

from tests.helper import DROP, LOOK, PLAN, READY, TREE
from tests.helper import ask, came_out, found, given, in_tree, last, listed, log, need, note, out, package
from tests.helper import resolve, step, yank

MOST = 4294967295
ONE = (1, 0, 0)
MENDED = (1, 0, 1)
TWICE = (1, 0, 2)
SECOND = (1, 1, 0)
ALONE = [package(ONE), note(1, [0]), *given(0)]


def hanging(kind, level, times=1):
    """Package 1 needs package 0, of this kind, which rises this often by this level."""
    return [package(ONE), package(ONE, 0, [need(0, kind, ONE)]), *[note(level, [0]), *given(0)] * times]


class Withdrawn(unittest.TestCase):
    def test_answers_nought(self):
        self.assertEqual(last(*ALONE, yank(0, ONE)), [0])

    def test_log_shows_it(self):
        told = ask(*ALONE, note(2, [0]), *given(0), yank(0, MENDED), log(0), yank(0, ONE), log(0))
        self.assertEqual(told[-3], listed(came_out(ONE), came_out(MENDED, [0], 1), came_out(SECOND, [1])))
        self.assertEqual(told[-1], listed(came_out(ONE, [], 1), came_out(MENDED, [0], 1), came_out(SECOND, [1])))

    def test_resolve_and_another_yank(self):
        told = ask(*ALONE, resolve(0, ONE), yank(0, ONE), resolve(0, ONE), yank(0, ONE), resolve(0, MENDED))
        self.assertEqual(told[-5:], [[0], [0], [-2], [-2], [0]])

    def test_is_not_found_any_more(self):
        told = ask(*hanging(3, 1, 2), yank(0, MENDED), resolve(1, ONE), yank(0, ONE), resolve(1, ONE))
        self.assertEqual(told[-4:], [[0], listed(found(0, TWICE)), [0], listed(found(0, TWICE))])
        tree = [*hanging(1, 1), note(2, [0]), *given(0), DROP]
        told = ask(*tree, resolve(1, ONE), yank(0, MENDED), resolve(1, ONE))
        self.assertEqual(told[-3:], [listed(found(0, MENDED)), [0], listed(found(0, ONE))])

    def test_the_tree_and_the_steps_stay(self):
        seen = [TREE, LOOK]
        tree = [*hanging(2, 2), note(3, [0]), note(1, [1])]
        self.assertEqual(ask(*tree, yank(0, ONE), *seen)[-2:], ask(*tree, *seen)[-2:])
        self.assertEqual(last(*tree, yank(0, ONE), TREE), listed(in_tree(SECOND, 1), in_tree(ONE, 1)))

    def test_its_notes_do_not_wait_again(self):
        told = ask(*ALONE, note(1, [0]), *given(0), yank(0, MENDED), TREE, LOOK, log(0))
        self.assertEqual(told[-3:-1], [listed(in_tree(TWICE)), [0]])
        self.assertEqual(told[-1], listed(came_out(ONE), came_out(MENDED, [0], 1), came_out(TWICE, [1])))

    def test_only_that_package_s(self):
        told = ask(package(ONE), package(ONE), note(1, [0, 1]), *given(0, 1), yank(1, ONE), log(0), log(1))
        self.assertEqual(told[-3:-1], [[0], listed(came_out(ONE), came_out(MENDED, [0]))])
        self.assertEqual(told[-1], listed(came_out(ONE, [], 1), came_out(MENDED, [0])))

    def test_while_there_is_a_plan(self):
        tree = [*hanging(3, 1), note(2, [0, 1]), PLAN]
        told = ask(*tree, yank(0, ONE), READY, out(0), yank(0, MENDED), out(1), resolve(1, SECOND))
        self.assertEqual(told[-6:], [[0], [1, 0], [1], [0], [0], listed(found(0, SECOND))])


class Unknown(unittest.TestCase):
    def test_no_such_package(self):
        for number in (1, 6, MOST):
            self.assertEqual(last(*ALONE, yank(number, ONE)), [-2])
        self.assertEqual(last(yank(0, ONE)), [-2])

    def test_not_out(self):
        for version in ((0, 0, 0), (0, 0, 1), TWICE, SECOND, (2, 0, 0), (1, 0, MOST), (MOST, MOST, MOST)):
            self.assertEqual(last(*ALONE, yank(0, version)), [-2])

    def test_another_package_s_version(self):
        self.assertEqual(last(package((3, 0, 0)), *ALONE[:1], yank(1, (3, 0, 0))), [-2])

    def test_planned_but_not_out_yet(self):
        told = ask(*ALONE[:2], PLAN, yank(0, MENDED), out(0), yank(0, ONE))
        self.assertEqual(told[-3:], [[-2], [0], [0]])
        self.assertEqual(last(*ALONE[:2], PLAN, DROP, yank(0, MENDED)), [-2])

    def test_withdrawn(self):
        self.assertEqual(ask(*ALONE, *[yank(0, ONE)] * 3)[-3:], [[0], [-2], [-2]])


class InTheTree(unittest.TestCase):
    def test_the_only_version(self):
        self.assertEqual(last(package(ONE), yank(0, ONE)), [-4])

    def test_the_newest_version(self):
        self.assertEqual(ask(*ALONE, yank(0, MENDED), yank(0, ONE), yank(0, MENDED))[-3:], [[-4], [0], [-4]])

    def test_till_the_new_one_is_out(self):
        told = ask(*ALONE[:2], PLAN, yank(0, ONE), out(0), yank(0, ONE), yank(0, MENDED))
        self.assertEqual(told[-4:], [[-4], [0], [0], [-4]])
        self.assertEqual(last(*ALONE[:2], PLAN, DROP, yank(0, ONE)), [-4])

    def test_before_what_hangs_on_it(self):
        for kind in range(4):
            self.assertEqual(last(package(ONE), package(ONE, 0, [need(0, kind, ONE)]), yank(0, ONE)), [-4])

    def test_that_package_s_tree_counts(self):
        tree = [package(MENDED), *ALONE[:1], note(1, [1]), *given(1)]
        self.assertEqual(ask(*tree, yank(1, ONE), yank(0, MENDED))[-2:], [[0], [-4]])


class Needed(unittest.TestCase):
    def test_by_each_kind(self):
        for kind, level in ((0, 1), (1, 2), (2, 3)):
            self.assertEqual(last(*hanging(kind, level), yank(0, ONE)), [-6])

    def test_something_else_is_found(self):
        for kind, level in ((1, 1), (2, 1), (2, 2), (3, 1), (3, 2), (3, 3)):
            self.assertEqual(last(*hanging(kind, level), yank(0, ONE)), [0])

    def test_something_lower_is_found(self):
        tree = [*hanging(1, 1), note(2, [0]), *given(0), DROP]
        told = ask(*tree, yank(0, MENDED), yank(0, ONE), resolve(1, ONE))
        self.assertEqual(told[-3:], [[0], [-6], listed(found(0, ONE))])

    def test_what_is_withdrawn_is_nothing_else(self):
        tree = [*hanging(1, 1), note(2, [0]), *given(0), DROP]
        told = ask(*tree, yank(0, ONE), yank(0, MENDED), resolve(1, ONE))
        self.assertEqual(told[-3:], [[0], [-6], listed(found(0, MENDED))])

    def test_nothing_of_another_package(self):
        tree = [package(ONE), package(ONE), package(ONE, 0, [need(1, 0, ONE)]), note(1, [0, 1]), *given(0, 1)]
        self.assertEqual(ask(*tree, yank(1, ONE), yank(0, ONE))[-2:], [[-6], [0]])

    def test_what_hangs_on_it_is_withdrawn(self):
        told = ask(*hanging(0, 1), out(1), yank(0, ONE), yank(1, ONE), yank(0, ONE))
        self.assertEqual(told[-4:], [[0], [-6], [0], [0]])

    def test_what_hangs_on_it_is_in_the_tree(self):
        told = ask(*hanging(0, 1), yank(0, ONE), yank(1, ONE), out(1), yank(1, ONE), yank(0, ONE))
        self.assertEqual(told[-5:], [[-6], [-4], [0], [0], [0]])

    def test_one_of_several_that_hang_on_it(self):
        tree = [package(ONE), package(ONE, 0, [need(0, 0, ONE)]), package(ONE, 0, [need(0, 0, ONE)]), note(1, [0])]
        told = ask(*tree, *given(0, 1, 2), yank(1, ONE), yank(0, ONE), yank(2, ONE), yank(0, ONE))
        self.assertEqual(told[-4:], [[0], [-6], [0], [0]])

    def test_an_older_version_hangs_on_it(self):
        tree = [*hanging(0, 1), out(1), note(1, [0]), *given(0, 1)]
        told = ask(*tree, yank(0, MENDED), yank(1, MENDED), yank(0, MENDED), yank(0, ONE), resolve(1, ONE))
        self.assertEqual(told[-5:], [[-6], [0], [0], [-6], listed(found(0, ONE))])

    def test_the_second_of_its_needs(self):
        tree = [package(ONE), package(ONE), package(ONE, 0, [need(0, 3, ONE), need(1, 0, ONE)]), note(1, [0, 1])]
        self.assertEqual(ask(*tree, *given(0, 1), yank(1, ONE), yank(0, ONE))[-2:], [[-6], [0]])

    def test_a_need_that_never_held_it(self):
        self.assertEqual(last(*ALONE, package(ONE, 0, [need(0, 0, MENDED)]), yank(0, ONE)), [0])
        self.assertEqual(last(*ALONE, package(ONE, 0, [need(0, 3, MENDED)]), yank(0, ONE)), [0])

    def test_needs_of_steps_that_are_not_out_do_not_count(self):
        tree = [package(ONE), note(2, [0]), *given(0), package(ONE, 0, [need(0, 2, SECOND)]), note(3, [0]), *given(0)]
        told = ask(*tree, yank(0, ONE), yank(0, SECOND), out(1), yank(1, ONE), yank(0, SECOND))
        self.assertEqual(told[-5:], [[0], [-6], [0], [0], [0]])

    def test_with_mates(self):
        tree = [package(ONE, 7), package(ONE, 7, [need(0, 0, ONE)]), note(1, [0]), *given(0)]
        self.assertEqual(ask(*tree, yank(0, ONE), out(1), yank(1, ONE), yank(0, ONE))[-4:], [[-6], [0], [0], [0]])

    def test_a_chain_from_its_end(self):
        tree = [*hanging(0, 1)[:2], package(ONE, 0, [need(1, 0, ONE)]), note(1, [0]), *given(0, 1, 2)]
        told = ask(*tree, yank(0, ONE), yank(1, ONE), yank(2, ONE), yank(0, ONE), yank(1, ONE), yank(0, ONE))
        self.assertEqual(told[-6:], [[-6], [-6], [0], [-6], [0], [0]])


class AfterARefusal(unittest.TestCase):
    def test_all_is_as_it_was(self):
        tree = [*hanging(0, 1), note(1, [1])]
        seen = [READY, TREE, log(0), log(1), resolve(0, ONE), resolve(0, MENDED), resolve(1, ONE), DROP, LOOK]
        before = ask(*tree, *seen)[-len(seen):]
        refused = (
            (yank(0, ONE), [-6]),
            (yank(0, MENDED), [-4]),
            (yank(1, ONE), [-4]),
            (yank(0, SECOND), [-2]),
            (yank(2, ONE), [-2]),
        )
        for call, answer in refused:
            told = ask(*tree, call, *seen)
            self.assertEqual(told[-len(seen) - 1], answer)
            self.assertEqual(told[-len(seen):], before)

    def test_may_be_asked_again(self):
        told = ask(*hanging(0, 1), *[yank(0, ONE)] * 2, out(1), yank(1, ONE), yank(0, ONE), log(0))
        self.assertEqual(told[-6:-1], [[-6], [-6], [0], [0], [0]])
        self.assertEqual(told[-1], listed(came_out(ONE, [], 1), came_out(MENDED, [0])))

    def test_steps_told_behind_it(self):
        told = last(*hanging(0, 1), yank(0, ONE), DROP, LOOK)
        self.assertEqual(told, listed(step(1, 1, MENDED)))


if __name__ == "__main__":
    unittest.main()
