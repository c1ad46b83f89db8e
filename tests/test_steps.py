"""look and plan: the steps that there are; ready: which of them can come out."""

import unittest

from tests.helper import LOOK, PLAN, READY, ask, last, need, note, package, step, listed
from treegiven.plans import answer_look
from treegiven.state import House
from treegiven.steps import steps_now
from treegiven.tree import answer_note, answer_package
from treegiven.versions import Need

ONE = (1, 0, 0)
MENDED = (1, 0, 1)


class Steps(unittest.TestCase):
    def check(self, tree, *steps):
        """look and plan both tell these steps."""
        told = ask(*tree, LOOK, PLAN)
        self.assertEqual(told[-2], listed(*steps))
        self.assertEqual(told[-1], listed(*steps))

    def test_no_packages(self):
        self.check([])

    def test_no_notes(self):
        self.check([package(ONE), package(ONE, 0, [need(0, 0, ONE)]), package(ONE, 1), package(ONE, 1)])

    def test_level_of_a_note(self):
        self.check([package((1, 2, 3)), package(ONE), note(2, [0])], step(0, 2, (1, 3, 0)))

    def test_highest_of_several_notes(self):
        notes = [note(1, [0]), note(3, [0]), note(2, [0])]
        self.check([package((1, 2, 3)), *notes], step(0, 3, (2, 0, 0)))

    def test_raised_once_for_several_notes(self):
        self.check([package(ONE), note(1, [0]), note(1, [0])], step(0, 1, MENDED))

    def test_need_that_does_not_hold_any_more(self):
        for kind, level, higher in ((0, 1, (1, 0, 1)), (1, 2, (1, 1, 0)), (2, 3, (2, 0, 0))):
            with self.subTest(kind=kind):
                tree = [package(ONE), package((4, 5, 6), 0, [need(0, kind, ONE)]), note(level, [0])]
                self.check(tree, step(0, level, higher), step(1, 1, (4, 5, 7)))

    def test_need_that_holds_lets_the_level_stay(self):
        for kind, level, higher in ((1, 1, (1, 0, 1)), (2, 2, (1, 1, 0)), (3, 3, (2, 0, 0))):
            with self.subTest(kind=kind):
                tree = [package(ONE), package((4, 5, 6), 0, [need(0, kind, ONE)]), note(level, [0])]
                self.check(tree, step(0, level, higher))

    def test_need_of_kind_two_with_zeros(self):
        tree = [package((0, 2, 3)), package(ONE, 0, [need(0, 2, (0, 2, 3))])]
        self.check([*tree, note(2, [0])], step(0, 2, (0, 2, 4)))
        self.check([*tree, note(3, [0])], step(0, 3, (0, 3, 0)), step(1, 1, MENDED))
        tree = [package((0, 0, 3)), package(ONE, 0, [need(0, 2, (0, 0, 3))])]
        self.check([*tree, note(1, [0])], step(0, 1, (0, 0, 4)), step(1, 1, MENDED))

    def test_one_need_of_several(self):
        tree = [package(ONE), package(ONE), package(ONE, 0, [need(0, 3, ONE), need(1, 0, ONE)])]
        self.check([*tree, note(1, [0])], step(0, 1, MENDED))
        self.check([*tree, note(1, [1])], step(1, 1, MENDED), step(2, 1, MENDED))

    def test_note_of_its_own_above_the_need(self):
        tree = [package(ONE), package(ONE, 0, [need(0, 0, ONE)]), note(1, [0]), note(3, [1])]
        self.check(tree, step(0, 1, MENDED), step(1, 3, (2, 0, 0)))

    def test_through_several_packages(self):
        chain = [package(ONE)] + [package(ONE, 0, [need(number, 0, ONE)]) for number in range(5)]
        self.check([*chain, note(3, [0])], step(0, 3, (2, 0, 0)), *[step(p, 1, MENDED) for p in range(1, 6)])
        self.check([*chain, note(3, [3])], step(3, 3, (2, 0, 0)), step(4, 1, MENDED), step(5, 1, MENDED))

    def test_a_chain_ends_where_a_need_holds(self):
        chain = [package(ONE), package(ONE, 0, [need(0, 2, ONE)]), package(ONE, 0, [need(1, 1, ONE)])]
        self.check([*chain, note(3, [0])], step(0, 3, (2, 0, 0)), step(1, 1, MENDED))

    def test_a_need_does_not_raise_what_it_is_on(self):
        self.check([package(ONE), package(ONE, 0, [need(0, 0, ONE)]), note(3, [1])], step(1, 3, (2, 0, 0)))

    def test_level_of_a_mate(self):
        tree = [package(ONE, 7), package(ONE), package(ONE, 7), package(ONE, 8), note(2, [2])]
        self.check(tree, step(0, 2, (1, 1, 0)), step(2, 2, (1, 1, 0)))

    def test_no_group_makes_no_mates(self):
        self.check([package(ONE), package(ONE), note(1, [1])], step(1, 1, MENDED))

    def test_highest_level_of_the_mates(self):
        tree = [package(ONE, 7), package(ONE, 7), note(1, [0]), note(3, [1])]
        self.check(tree, step(0, 3, (2, 0, 0)), step(1, 3, (2, 0, 0)))

    def test_mates_and_needs_by_turns(self):
        tree = [
            package(ONE),
            package(ONE, 7, [need(0, 0, ONE)]),
            package(ONE, 8, [need(1, 1, ONE)]),
            package(ONE, 7),
            package(ONE, 8, [need(3, 0, ONE)]),
            package(ONE, 0, [need(2, 0, ONE)]),
        ]
        self.check([*tree, note(2, [0])], step(0, 2, (1, 1, 0)), *[step(p, 1, MENDED) for p in range(1, 6)])

    def test_a_later_package_moves_an_earlier_mate(self):
        tree = [package(ONE, 7), package(ONE, 0, [need(0, 0, ONE)]), package(ONE, 7), note(3, [2])]
        self.check(tree, step(0, 3, (2, 0, 0)), step(1, 1, MENDED), step(2, 3, (2, 0, 0)))

    def test_needs_among_mates(self):
        tree = [package(ONE, 7), package(ONE, 7, [need(0, 0, ONE)]), note(1, [1])]
        self.check(tree, step(0, 1, MENDED), step(1, 1, MENDED))

    def test_above_a_thousand(self):
        tree = [package((1000, 1000, 1000)), package(ONE, 0, [need(0, 1, (1000, 1000, 1000))])]
        self.check([*tree, note(1, [0])], step(0, 1, (1000, 1000, 1001)))


class LookAndPlan(unittest.TestCase):
    def test_look_makes_no_plan(self):
        told = ask(package(ONE), note(1, [0]), LOOK, READY, LOOK, package(ONE))
        self.assertEqual(told[2:], [listed(step(0, 1, MENDED)), [0], listed(step(0, 1, MENDED)), [1]])

    def test_refused_if_there_is_a_plan(self):
        told = ask(package(ONE), note(1, [0]), PLAN, LOOK, PLAN, READY)
        self.assertEqual(told[3:], [[-3], [-3], [1, 0]])

    def test_plan_with_no_steps_leaves_none(self):
        told = ask(package(ONE), PLAN, PLAN, LOOK, READY, note(1, [0]), PLAN, LOOK)
        self.assertEqual(told[1:], [[0], [0], [0], [0], [0], listed(step(0, 1, MENDED)), [-3]])

    def test_plan_leaves_the_tree(self):
        house = House()
        answer_package(house, ONE, 0, [])
        answer_note(house, 2, [0])
        before = answer_look(house)
        house.plan = steps_now(house)
        kept = house.packages[0]
        self.assertEqual((kept.version, kept.waiting, len(kept.releases)), (ONE, [0], 1))
        house.plan = []
        self.assertEqual(answer_look(house), before)


class WhatAStepHas(unittest.TestCase):
    def test_needs_and_notes(self):
        house = House()
        answer_package(house, ONE, 0, [])
        answer_package(house, ONE, 0, [])
        answer_package(house, ONE, 0, [Need(0, 2, ONE), Need(1, 1, ONE)])
        answer_note(house, 3, [0])
        answer_note(house, 1, [1, 2])
        answer_note(house, 1, [2])
        last_step = steps_now(house)[2]
        needs = [(one.package, one.kind, one.version) for one in last_step.needs]
        self.assertEqual(needs, [(0, 2, (2, 0, 0)), (1, 1, ONE)])
        self.assertEqual(last_step.notes, [1, 2])
        kept = [(one.package, one.kind, one.version) for one in house.packages[2].needs]
        self.assertEqual(kept, [(0, 2, ONE), (1, 1, ONE)])

    def test_needs_move_when_the_step_comes_from_elsewhere(self):
        house = House()
        answer_package(house, ONE, 0, [])
        answer_package(house, ONE, 0, [Need(0, 0, ONE)])
        answer_note(house, 1, [0])
        needs = [(one.package, one.kind, one.version) for one in steps_now(house)[1].needs]
        self.assertEqual(needs, [(0, 0, MENDED)])


class Ready(unittest.TestCase):
    def test_no_plan(self):
        self.assertEqual(last(READY), [0])
        self.assertEqual(last(package(ONE), note(1, [0]), READY), [0])

    def test_one_step(self):
        self.assertEqual(last(package(ONE), package(ONE), note(1, [1]), PLAN, READY), [1, 1])

    def test_some_are_not(self):
        chain = [package(ONE), package(ONE, 0, [need(0, 0, ONE)]), package(ONE, 0, [need(1, 0, ONE)]), package(ONE)]
        self.assertEqual(last(*chain, note(1, [0, 3]), PLAN, READY), [2, 0, 3])

    def test_a_need_that_holds_makes_wait_too(self):
        tree = [package(ONE), package(ONE, 0, [need(0, 3, ONE)])]
        self.assertEqual(last(*tree, note(1, [0, 1]), PLAN, READY), [1, 0])

    def test_a_need_on_what_is_not_planned(self):
        tree = [package(ONE), package(ONE, 0, [need(0, 0, ONE)])]
        self.assertEqual(last(*tree, note(1, [1]), PLAN, READY), [1, 1])

    def test_only_a_need_of_its_own_counts(self):
        tree = [package(ONE), package(ONE, 0, [need(0, 3, ONE)]), package(ONE, 0, [need(1, 3, ONE)])]
        self.assertEqual(last(*tree, note(1, [0, 2]), PLAN, READY), [2, 0, 2])

    def test_the_second_of_two_needs(self):
        tree = [package(ONE), package(ONE), package(ONE, 0, [need(0, 3, ONE), need(1, 3, ONE)])]
        self.assertEqual(last(*tree, note(1, [1, 2]), PLAN, READY), [1, 1])

    def test_all_six(self):
        tree = [package(ONE)] * 6
        self.assertEqual(last(*tree, note(1, list(range(6))), PLAN, READY), [6, 0, 1, 2, 3, 4, 5])


if __name__ == "__main__":
    unittest.main()
