"""out: how many steps are left, what the other calls tell behind it, and its refusals."""

import unittest

from tests.helper import DROP, LOOK, PLAN, READY, TREE
from tests.helper import ask, came_out, found, given, in_tree, last, listed, log, need, note, out, package
from tests.helper import resolve, step, yank

MOST = 4294967295
ONE = (1, 0, 0)
MENDED = (1, 0, 1)
CHAIN = [package(ONE), package(ONE, 0, [need(0, 0, ONE)]), package(ONE, 0, [need(1, 0, ONE)])]


class HowManyAreLeft(unittest.TestCase):
    def test_one_step(self):
        self.assertEqual(last(package(ONE), note(1, [0]), *given(0)), [0])

    def test_several_in_any_order(self):
        tree = [package(ONE)] * 6 + [note(1, [0, 1, 3, 4])]
        for order in ((0, 1, 3, 4), (4, 3, 1, 0), (3, 0, 4, 1)):
            self.assertEqual(ask(*tree, *given(*order))[-4:], [[3], [2], [1], [0]])

    def test_a_chain(self):
        self.assertEqual(ask(*CHAIN, note(1, [0]), *given(0, 1, 2))[-3:], [[2], [1], [0]])


class BehindOut(unittest.TestCase):
    def test_log_and_tree(self):
        told = ask(package((1, 2, 3)), package(ONE), note(2, [0]), *given(0), log(0), log(1), TREE)
        self.assertEqual(told[-3], listed(came_out((1, 2, 3)), came_out((1, 3, 0), [0])))
        self.assertEqual(told[-2], listed(came_out(ONE)))
        self.assertEqual(told[-1], listed(in_tree((1, 3, 0)), in_tree(ONE)))

    def test_only_its_own_step_is_out(self):
        told = ask(*CHAIN, note(1, [0, 1]), *given(0), log(0), log(1), log(2), TREE)
        self.assertEqual(told[-4], listed(came_out(ONE), came_out(MENDED, [0])))
        self.assertEqual(told[-3:-1], [listed(came_out(ONE))] * 2)
        self.assertEqual(told[-1], listed(in_tree(MENDED), in_tree(ONE, 1), in_tree(ONE)))

    def test_ready(self):
        told = ask(*CHAIN, note(1, [0]), PLAN, READY, out(0), READY, out(1), READY, out(2), READY)
        self.assertEqual(told[5::2], [[1, 0], [1, 1], [1, 2], [0]])

    def test_ready_waits_for_each_need(self):
        tree = [package(ONE), package(ONE), package(ONE, 0, [need(0, 3, ONE), need(1, 3, ONE)]), note(1, [0, 1, 2])]
        self.assertEqual(ask(*tree, PLAN, READY, out(1), READY, out(0), READY)[5::2], [[2, 0, 1], [1, 0], [1, 2]])

    def test_look_and_plan_are_refused_till_the_last(self):
        told = ask(*CHAIN, note(1, [0]), *given(0, 1), LOOK, PLAN, package(ONE), out(2), LOOK, PLAN, package(ONE))
        self.assertEqual(told[-7:], [[-3], [-3], [-3], [0], [0], [0], [3]])

    def test_the_next_version_is_raised_from_the_new_one(self):
        told = ask(package(ONE), note(2, [0]), *given(0), note(1, [0]), LOOK, PLAN, out(0), log(0))
        self.assertEqual(told[-4:-2], [listed(step(0, 1, (1, 1, 1)))] * 2)
        self.assertEqual(told[-1], listed(came_out(ONE), came_out((1, 1, 0), [0]), came_out((1, 1, 1), [1])))

    def test_a_new_package_s_need_is_held_by_the_new_version(self):
        tree = [package(ONE), note(3, [0]), *given(0)]
        told = ask(*tree, package(ONE, 0, [need(0, 2, ONE)]), package(ONE, 0, [need(0, 2, (2, 0, 0))]))
        self.assertEqual(told[-2:], [[-5], [1]])

    def test_mates_come_out_one_by_one(self):
        tree = [package(ONE, 7), package(ONE, 7), note(2, [0])]
        told = ask(*tree, *given(1, 0), TREE, LOOK, package((1, 1, 0), 7), package(ONE, 7))
        self.assertEqual(told[-4:], [listed(in_tree((1, 1, 0)), in_tree((1, 1, 0))), [0], [2], [-5]])

    def test_above_a_thousand(self):
        top = (1000, 1000, 1000)
        told = ask(package(top), note(3, [0]), *given(0), resolve(0, (1001, 0, 0)), yank(0, top), log(0))
        self.assertEqual(told[-3:], [[0], [0], listed(came_out(top, [], 1), came_out((1001, 0, 0), [0]))])


class Needs(unittest.TestCase):
    """What comes out has the needs of its step: moved where they must be, else as they were."""

    def test_moved(self):
        for kind, level, higher in ((0, 1, (1, 0, 1)), (1, 2, (1, 1, 0)), (2, 3, (2, 0, 0))):
            with self.subTest(kind=kind):
                tree = [package(ONE), package(ONE, 0, [need(0, kind, ONE)]), note(level, [0]), *given(0, 1)]
                told = ask(*tree, resolve(1, MENDED), resolve(1, ONE), yank(0, ONE), yank(1, ONE), yank(0, ONE))
                self.assertEqual(told[-5:], [[1, 0, *higher], [1, 0, *ONE], [-6], [0], [0]])

    def test_moved_needs_keep_their_kind(self):
        # kind, the level that breaks the need, a level that its kind lets in, the package's versions then
        cases = ((1, 2, 1, (1, 1, 1)), (2, 3, 2, (2, 1, 0)), (2, 3, 1, (2, 0, 1)))
        for kind, breaking, harmless, higher in cases:
            tree = [package(ONE), package(ONE, 0, [need(0, kind, ONE)]), note(breaking, [0]), *given(0, 1)]
            with self.subTest(kind=kind, harmless=harmless):
                self.assertEqual(last(*tree, note(harmless, [0]), LOOK), listed(step(0, harmless, higher)))
                told = last(*tree, note(harmless, [0]), *given(0), resolve(1, MENDED))
                self.assertEqual(told, listed(found(0, higher)))
                told = last(*tree, note(breaking, [0]), LOOK)
                self.assertEqual(told[0], 2)
                self.assertEqual(told[6:], step(1, 1, (1, 0, 2)))

    def test_of_kind_nought_moves_each_time(self):
        tree = [package(ONE), package(ONE, 0, [need(0, 0, ONE)])]
        again = [note(1, [0]), *given(0, 1)]
        told = ask(*tree, *again * 3, *[resolve(1, (1, 0, third)) for third in range(4)])
        self.assertEqual(told[-4:], [listed(found(0, (1, 0, third))) for third in range(4)])

    def test_those_that_hold_stay_from_where_they_were(self):
        tree = [package(ONE), package(ONE, 0, [need(0, 2, ONE)]), note(2, [0]), note(1, [1]), *given(0, 1)]
        further = [note(3, [0]), *given(0), DROP]
        told = ask(*tree, *further, resolve(1, MENDED), yank(0, (1, 1, 0)), resolve(1, MENDED))
        self.assertEqual(told[-3:], [listed(found(0, (1, 1, 0))), [0], listed(found(0, ONE))])

    def test_one_moved_and_one_not(self):
        tree = [package(ONE), package(ONE), package(ONE, 0, [need(0, 0, ONE), need(1, 1, ONE)]), note(1, [0, 1])]
        told = ask(*tree, *given(0, 1, 2), yank(1, ONE), yank(0, ONE), resolve(2, MENDED), resolve(2, ONE))
        self.assertEqual(told[-4:-2], [[0], [-6]])
        self.assertEqual(told[-2], listed(found(0, MENDED), found(1, MENDED)))
        self.assertEqual(told[-1], listed(found(0, ONE), found(1, MENDED)))

    def test_the_tree_has_them(self):
        tree = [package(ONE), package(ONE, 0, [need(0, 2, ONE)]), note(3, [0]), *given(0, 1)]
        self.assertEqual(last(*tree, LOOK), [0])
        self.assertEqual(last(*tree, note(1, [1]), *given(1), resolve(1, (1, 0, 2))), listed(found(0, (2, 0, 0))))


class Notes(unittest.TestCase):
    def test_told_in_order(self):
        tree = [package(ONE), package(ONE), note(1, [0]), note(3, [1]), note(2, [0, 1]), note(1, [0])]
        told = ask(*tree, *given(1, 0), log(0), log(1), TREE)
        self.assertEqual(told[-3], listed(came_out(ONE), came_out((1, 1, 0), [0, 2, 3])))
        self.assertEqual(told[-2], listed(came_out(ONE), came_out((2, 0, 0), [1, 2])))
        self.assertEqual(told[-1], listed(in_tree((1, 1, 0)), in_tree((2, 0, 0))))

    def test_a_later_note_waits_for_a_later_version(self):
        tree = [package(ONE), note(1, [0]), PLAN, note(3, [0]), out(0)]
        told = ask(*tree, log(0), TREE, LOOK, *given(0), log(0), TREE)
        self.assertEqual(told[5], listed(came_out(ONE), came_out(MENDED, [0])))
        self.assertEqual(told[6], listed(in_tree(MENDED, 1)))
        self.assertEqual(told[7], listed(step(0, 3, (2, 0, 0))))
        self.assertEqual(told[-2], listed(came_out(ONE), came_out(MENDED, [0]), came_out((2, 0, 0), [1])))
        self.assertEqual(told[-1], listed(in_tree((2, 0, 0))))

    def test_a_later_note_at_a_step_without_notes(self):
        tree = [*CHAIN[:2], note(1, [0]), PLAN, out(0), note(2, [1]), out(1)]
        told = ask(*tree, log(1), TREE, *given(1), log(1))
        self.assertEqual(told[-5], listed(came_out(ONE), came_out(MENDED)))
        self.assertEqual(told[-4], listed(in_tree(MENDED), in_tree(MENDED, 1)))
        self.assertEqual(told[-1], listed(came_out(ONE), came_out(MENDED), came_out((1, 1, 0), [1])))

    def test_told_once_at_each_of_its_packages(self):
        tree = [package(ONE)] * 3 + [note(1, [0, 1, 2]), note(1, [0, 2]), PLAN, note(1, [1, 2])]
        outs = [out(2), out(0), DROP, note(1, [0]), *given(0, 1, 2), note(2, [0, 1, 2]), *given(2, 1, 0)]
        told = ask(*tree, *outs, log(0), log(1), log(2), TREE)
        second = (1, 0, 2)
        last_out = (1, 1, 0)
        self.assertEqual(told[-4:-1], [
            listed(came_out(ONE), came_out(MENDED, [0, 1]), came_out(second, [3]), came_out(last_out, [4])),
            listed(came_out(ONE), came_out(MENDED, [0, 2]), came_out(last_out, [4])),
            listed(came_out(ONE), came_out(MENDED, [0, 1]), came_out(second, [2]), came_out(last_out, [4])),
        ])
        self.assertEqual(told[-1], listed(*[in_tree(last_out)] * 3))

    def test_waits_on_at_the_others(self):
        told = ask(package(ONE), package(ONE), note(1, [0, 1]), *given(1), TREE, log(0))
        self.assertEqual(told[-2:], [listed(in_tree(ONE, 1), in_tree(MENDED)), listed(came_out(ONE))])


class Refused(unittest.TestCase):
    def test_no_plan(self):
        for number in (0, 1, MOST):
            self.assertEqual(last(out(number)), [-4])
            self.assertEqual(last(package(ONE), note(1, [0]), out(number)), [-4])
            self.assertEqual(last(package(ONE), note(1, [0]), PLAN, DROP, out(number)), [-4])
            self.assertEqual(last(package(ONE), PLAN, out(number)), [-4])

    def test_not_in_the_plan(self):
        tree = [*[package(ONE)] * 3, note(1, [0, 2]), PLAN]
        for number in (1, 3, 6, MOST):
            self.assertEqual(last(*tree, out(number)), [-4])

    def test_not_in_the_plan_any_more(self):
        tree = [*[package(ONE)] * 2, note(1, [0, 1]), *given(0)]
        self.assertEqual(ask(*tree, out(0), out(1), out(1), out(0))[-4:], [[-4], [0], [-4], [-4]])

    def test_not_ready_and_ready_later(self):
        told = ask(*CHAIN, note(1, [0]), PLAN, out(2), out(1), out(0), out(2), out(1), out(2))
        self.assertEqual(told[-6:], [[-5], [-5], [2], [-5], [1], [0]])

    def test_a_need_that_holds_makes_wait_too(self):
        tree = [package(ONE), package(ONE, 0, [need(0, 3, ONE)]), note(1, [0, 1])]
        self.assertEqual(ask(*tree, PLAN, out(1), out(0), out(1))[-3:], [[-5], [1], [0]])

    def test_mates_do_not_make_wait(self):
        self.assertEqual(ask(package(ONE, 7), package(ONE, 7), note(1, [0]), *given(1, 0))[-2:], [[1], [0]])

    def test_all_is_as_it_was(self):
        seen = [READY, TREE, log(0), log(1), log(2), resolve(1, ONE), PLAN]
        plan = [*CHAIN, note(1, [0]), note(2, [2]), PLAN]
        before = ask(*plan, *seen)[-len(seen):]
        for refused in (out(1), out(2), out(3), out(MOST)):
            self.assertEqual(ask(*plan, refused, *seen)[-len(seen):], before)
        before = ask(*plan, out(0), *seen)[-len(seen):]
        for refused in (out(0), out(2)):
            self.assertEqual(ask(*plan, out(0), refused, *seen)[-len(seen):], before)

    def test_a_refused_step_comes_out_unchanged(self):
        told = ask(*CHAIN, note(1, [0]), note(2, [1]), PLAN, out(1), note(3, [1]), out(0), out(1), log(1), TREE)
        self.assertEqual(told[-2], listed(came_out(ONE), came_out((1, 1, 0), [1])))
        self.assertEqual(told[-1], listed(in_tree(MENDED), in_tree((1, 1, 0), 1), in_tree(ONE)))


if __name__ == "__main__":
    unittest.main()
