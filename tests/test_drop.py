"""drop: the steps that were left, and plans that are made behind a plan broken off in the middle."""

import unittest

from tests.helper import DROP, LOOK, PLAN, READY, TREE
from tests.helper import ask, came_out, found, given, in_tree, last, listed, log, need, note, out, package
from tests.helper import resolve, step, yank

ONE = (1, 0, 0)
MENDED = (1, 0, 1)
SECOND = (1, 1, 0)
CHAIN = [package(ONE), package(ONE, 0, [need(0, 0, ONE)]), package(ONE, 0, [need(1, 0, ONE)])]
MATES = [package(ONE, 7), package(ONE, 7), package(ONE, 7)]


class WhatWasLeft(unittest.TestCase):
    def test_none_out(self):
        self.assertEqual(last(*CHAIN, note(1, [0]), PLAN, DROP), [3, 0, 1, 2])

    def test_some_out(self):
        tree = [package(ONE)] * 5 + [note(1, [0, 1, 3, 4])]
        self.assertEqual(last(*tree, *given(1), DROP), [3, 0, 3, 4])
        self.assertEqual(last(*tree, *given(4, 0), DROP), [2, 1, 3])
        self.assertEqual(last(*tree, *given(3, 4, 0), DROP), [1, 1])

    def test_no_plan(self):
        self.assertEqual(last(DROP), [-3])
        self.assertEqual(last(package(ONE), note(1, [0]), LOOK, DROP), [-3])

    def test_a_plan_with_no_steps_is_none(self):
        self.assertEqual(last(package(ONE), PLAN, DROP), [-3])

    def test_dropped_already(self):
        self.assertEqual(ask(*CHAIN, note(1, [0]), *given(0), DROP, DROP)[-2:], [[2, 1, 2], [-3]])

    def test_the_last_is_out(self):
        self.assertEqual(last(package(ONE), note(1, [0]), *given(0), DROP), [-3])
        self.assertEqual(last(*CHAIN, note(1, [0]), *given(0, 1, 2), DROP), [-3])

    def test_a_refusal_leaves_all(self):
        seen = [READY, TREE, log(0), LOOK]
        tree = [package(ONE), note(1, [0]), *given(0), note(2, [0])]
        self.assertEqual(ask(*tree, DROP, *seen)[-4:], ask(*tree, *seen)[-4:])


class BehindDrop(unittest.TestCase):
    def test_there_is_no_plan(self):
        told = ask(*CHAIN, note(1, [0]), PLAN, DROP, READY, out(0), LOOK, package(ONE))
        self.assertEqual(told[-4:-2], [[0], [-4]])
        self.assertEqual(told[-2], listed(step(0, 1, MENDED), step(1, 1, MENDED), step(2, 1, MENDED)))
        self.assertEqual(told[-1], [3])

    def test_what_is_out_is_out(self):
        told = ask(*CHAIN, note(1, [0]), *given(0), DROP, log(0), log(1), TREE, resolve(1, ONE))
        self.assertEqual(told[-4], listed(came_out(ONE), came_out(MENDED, [0])))
        self.assertEqual(told[-3], listed(came_out(ONE)))
        self.assertEqual(told[-2], listed(in_tree(MENDED), in_tree(ONE), in_tree(ONE)))
        self.assertEqual(told[-1], listed(found(0, ONE)))

    def test_notes_that_were_planned_wait_on(self):
        tree = [package(ONE), package(ONE), note(2, [0, 1]), *given(1), DROP, note(1, [0, 1])]
        told = ask(*tree, TREE, *given(0, 1), log(0), log(1))
        self.assertEqual(told[-6], listed(in_tree(ONE, 2), in_tree(SECOND, 1)))
        self.assertEqual(told[-2], listed(came_out(ONE), came_out(SECOND, [0, 1])))
        self.assertEqual(told[-1], listed(came_out(ONE), came_out(SECOND, [0]), came_out((1, 1, 1), [1])))

    def test_a_later_note_is_in_the_next_plan(self):
        told = ask(package(ONE), note(1, [0]), PLAN, note(3, [0]), DROP, *given(0), log(0))
        self.assertEqual(told[5], listed(step(0, 3, (2, 0, 0))))
        self.assertEqual(told[-1], listed(came_out(ONE), came_out((2, 0, 0), [0, 1])))


class NeedsInTheMiddle(unittest.TestCase):
    def test_none_moved_yet(self):
        told = ask(*CHAIN, note(1, [0]), *given(0), DROP, PLAN, READY, out(1), out(2), resolve(1, MENDED))
        self.assertEqual(told[-5:-3], [listed(step(1, 1, MENDED), step(2, 1, MENDED)), [1, 1]])
        self.assertEqual(told[-1], listed(found(0, MENDED)))

    def test_some_moved(self):
        told = ask(*CHAIN, note(1, [0]), *given(0, 1), DROP, LOOK, *given(2), resolve(2, MENDED), resolve(2, ONE))
        self.assertEqual(told[-5], listed(step(2, 1, MENDED)))
        self.assertEqual(told[-2:], [listed(found(1, MENDED)), listed(found(1, ONE))])

    def test_moved_from_afar(self):
        tree = [*CHAIN[:2], note(3, [0]), *given(0), DROP, note(3, [0])]
        told = ask(*tree, *given(0), READY, out(1), resolve(1, MENDED), log(0))
        self.assertEqual(told[-6:-3], [listed(step(0, 3, (3, 0, 0)), step(1, 1, MENDED)), [1], [1, 1]])
        self.assertEqual(told[-2], listed(found(0, (3, 0, 0))))
        self.assertEqual(told[-1], listed(came_out(ONE), came_out((2, 0, 0), [0]), came_out((3, 0, 0), [1])))

    def test_one_that_held_all_the_while(self):
        tree = [package(ONE), package(ONE), package(ONE, 0, [need(0, 3, ONE), need(1, 0, ONE)]), note(1, [0, 1])]
        told = ask(*tree, *given(0), DROP, LOOK, *given(1), DROP, LOOK, *given(2), resolve(2, MENDED))
        self.assertEqual(told[7], listed(step(1, 1, MENDED), step(2, 1, MENDED)))
        self.assertEqual(told[-4], listed(step(2, 1, MENDED)))
        self.assertEqual(told[-1], listed(found(0, MENDED), found(1, MENDED)))

    def test_broken_off_again_and_again(self):
        tree = [*CHAIN, note(2, [0]), *given(0), DROP, *given(1), DROP, note(1, [0])]
        told = ask(*tree, *given(0, 1, 2), LOOK, resolve(1, (1, 0, 2)), resolve(2, MENDED))
        self.assertEqual(told[-7], listed(step(0, 1, (1, 1, 1)), step(1, 1, (1, 0, 2)), step(2, 1, MENDED)))
        self.assertEqual(told[-3:], [[0], listed(found(0, (1, 1, 1))), listed(found(1, (1, 0, 2)))])

    def test_a_new_package_fits_what_the_tree_has(self):
        tree = [*CHAIN, note(1, [0]), *given(0), DROP]
        needs = [need(0, 0, MENDED), need(1, 0, ONE)]
        told = ask(*tree, package(ONE, 0, needs), package(ONE, 0, [need(0, 0, ONE)]), LOOK)
        self.assertEqual(told[-3:-1], [[3], [-5]])
        self.assertEqual(told[-1], listed(step(1, 1, MENDED), step(2, 1, MENDED), step(3, 1, MENDED)))


class MatesInTheMiddle(unittest.TestCase):
    def test_all_rise_from_the_highest(self):
        told = ask(*MATES, note(2, [0]), *given(0), DROP, LOOK, *given(0, 2, 1), log(0), log(1), log(2), LOOK)
        again = (1, 1, 1)
        self.assertEqual(told[7], listed(step(0, 1, again), step(1, 1, again), step(2, 1, again)))
        self.assertEqual(told[-4], listed(came_out(ONE), came_out(SECOND, [0]), came_out(again)))
        self.assertEqual(told[-3:-1], [listed(came_out(ONE), came_out(again))] * 2)
        self.assertEqual(told[-1], [0])

    def test_the_one_with_the_note_is_left(self):
        told = last(*MATES, note(2, [0]), *given(1, 2), DROP, LOOK)
        self.assertEqual(told, listed(*[step(number, 2, (1, 2, 0)) for number in range(3)]))

    def test_the_highest_may_be_any_of_them(self):
        for number in range(3):
            told = last(*MATES, note(3, [number]), *given(number), DROP, LOOK)
            self.assertEqual(told, listed(*[step(mate, 1, (2, 0, 1)) for mate in range(3)]))

    def test_three_versions(self):
        tree = [*MATES, note(3, [0]), *given(0), DROP, *given(1), DROP]
        self.assertEqual(last(*tree, TREE), listed(in_tree((2, 0, 0)), in_tree((2, 0, 1)), in_tree(ONE)))
        self.assertEqual(last(*tree, LOOK), listed(*[step(mate, 1, (2, 0, 2)) for mate in range(3)]))

    def test_with_a_first_of_nought(self):
        mates = [package((0, 9, 9), 7)] * 2
        told = ask(*mates, note(3, [0]), *given(0), DROP, LOOK, note(2, [1]), LOOK, note(3, [1]), LOOK)
        self.assertEqual(told[6], listed(step(0, 1, (0, 10, 1)), step(1, 1, (0, 10, 1))))
        self.assertEqual(told[8], listed(step(0, 2, (0, 10, 1)), step(1, 2, (0, 10, 1))))
        self.assertEqual(told[10], listed(step(0, 3, (0, 11, 0)), step(1, 3, (0, 11, 0))))

    def test_needs_on_a_mate_that_rises_again(self):
        hanging = [package(ONE, 0, [need(mate, 1, ONE)]) for mate in (0, 1)]
        tree = [*MATES[:2], *hanging, note(2, [0]), *given(0, 2), DROP]
        told = ask(*tree, *given(0, 1, 3), LOOK, resolve(2, MENDED), resolve(3, MENDED))
        again = (1, 1, 1)
        steps = [step(0, 2, SECOND), step(1, 2, SECOND), step(2, 1, MENDED), step(3, 1, MENDED)]
        self.assertEqual(told[5], listed(*steps))
        self.assertEqual(told[9], listed(step(0, 1, again), step(1, 1, again), step(3, 1, MENDED)))
        self.assertEqual(told[-3:], [[0], listed(found(0, again)), listed(found(1, again))])

    def test_a_need_between_mates(self):
        mates = [package(ONE, 7), package(ONE, 7, [need(0, 0, ONE)])]
        told = ask(*mates, note(1, [1]), *given(0), DROP, *given(0, 1), resolve(1, (1, 0, 2)), resolve(1, MENDED))
        self.assertEqual(told[6], listed(step(0, 1, (1, 0, 2)), step(1, 1, (1, 0, 2))))
        self.assertEqual(told[-2:], [listed(found(0, (1, 0, 2))), [-2]])

    def test_no_other_joins_them(self):
        tree = [*MATES[:2], note(1, [0]), *given(0), DROP]
        self.assertEqual(ask(*tree, package(ONE, 7), package(MENDED, 7), package(ONE, 8))[-3:], [[-5], [-5], [2]])
        self.assertEqual(last(*tree, *given(0, 1), package((1, 0, 2), 7)), [2])

    def test_other_groups_stay(self):
        tree = [*MATES[:2], package(ONE, 8), package(ONE, 8), package(MENDED), note(1, [0]), *given(0), DROP]
        self.assertEqual(last(*tree, LOOK), listed(step(0, 1, (1, 0, 2)), step(1, 1, (1, 0, 2))))

    def test_a_version_that_only_one_mate_has_can_go(self):
        tree = [*MATES[:2], note(1, [0]), *given(0), DROP]
        told = ask(*tree, yank(0, ONE), yank(0, MENDED), yank(1, ONE), yank(1, MENDED), LOOK)
        self.assertEqual(told[-5:-1], [[0], [-4], [-4], [-2]])
        self.assertEqual(told[-1], listed(step(0, 1, (1, 0, 2)), step(1, 1, (1, 0, 2))))


if __name__ == "__main__":
    unittest.main()
