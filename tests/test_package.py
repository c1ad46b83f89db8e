"""package: its number, and each refusal by each of its causes."""

import unittest

from tests.helper import LOOK, PLAN, READY, ask, last, need, note, package, step, listed
from treegiven.state import House
from treegiven.tree import answer_package

MOST = 4294967295
ONE = (1, 0, 0)
FIVE = [package(ONE)] * 5
SIX = [package(ONE)] * 6
A_PLAN = [note(1, [0]), PLAN]


def on(number):
    return need(number, 3, (0, 0, 0))


class Accepted(unittest.TestCase):
    def test_numbers_in_order(self):
        self.assertEqual(ask(*SIX), [[0], [1], [2], [3], [4], [5]])

    def test_highest_numbers(self):
        top = (1000, 1000, 1000)
        self.assertEqual(ask(package(top, 1000), package(top, 1000, [need(0, 0, top)])), [[0], [1]])

    def test_lowest_numbers(self):
        self.assertEqual(ask(package((0, 0, 0)), package((0, 0, 0), 0, [need(0, 0, (0, 0, 0))])), [[0], [1]])

    def test_four_needs(self):
        needs = [on(0), on(1), on(2), on(4)]
        self.assertEqual(last(*FIVE, package(ONE, 0, needs)), [5])

    def test_each_kind_of_need(self):
        needs = [need(kind, kind, ONE) for kind in range(4)]
        self.assertEqual(last(*FIVE, package(ONE, 0, needs)), [5])

    def test_no_group_may_differ(self):
        self.assertEqual(ask(package((1, 0, 0)), package((2, 0, 0))), [[0], [1]])

    def test_groups_may_differ_from_one_another(self):
        self.assertEqual(ask(package((1, 0, 0), 1), package((2, 0, 0), 2), package((1, 0, 0), 1)), [[0], [1], [2]])

    def test_a_plan_without_steps_is_none(self):
        self.assertEqual(ask(package(ONE), PLAN, package(ONE)), [[0], [0], [1]])

    def test_notes_that_wait_do_not_hinder(self):
        self.assertEqual(last(package(ONE), note(3, [0]), package(ONE)), [1])

    def test_its_version_is_out(self):
        house = House()
        self.assertEqual(answer_package(house, ONE, 7, []), [0])
        out = house.packages[0].releases
        self.assertEqual([(one.version, one.needs, one.notes) for one in out], [(ONE, [], [])])


class Refused(unittest.TestCase):
    def test_bad_form(self):
        for high in (1001, MOST):
            for version in ((high, 0, 0), (0, high, 0), (0, 0, high)):
                self.assertEqual(last(package(version)), [-1])
            self.assertEqual(last(package(ONE, high)), [-1])

    def test_more_than_four_needs(self):
        five = [on(number) for number in range(5)]
        self.assertEqual(last(*FIVE, package(ONE, 0, five)), [-1])
        self.assertEqual(last(*SIX, package(ONE, 0, five + [on(5)])), [-1])

    def test_there_is_a_plan(self):
        self.assertEqual(last(package(ONE), *A_PLAN, package(ONE)), [-3])

    def test_there_are_six(self):
        self.assertEqual(last(*SIX, package(ONE)), [-7])

    def test_need_not_on_an_earlier_package(self):
        for number in (1, 2, MOST):
            self.assertEqual(last(package(ONE), package(ONE, 0, [on(number)])), [-2])
        self.assertEqual(last(package(ONE, 0, [on(0)])), [-2])
        self.assertEqual(last(package(ONE), package(ONE, 0, [on(0), on(1)])), [-2])

    def test_need_of_no_kind(self):
        for kind in (4, MOST):
            self.assertEqual(last(package(ONE), package(ONE, 0, [need(0, kind, ONE)])), [-2])

    def test_need_with_a_high_number(self):
        for high in (1001, MOST):
            for version in ((high, 0, 0), (0, high, 0), (0, 0, high)):
                self.assertEqual(last(package(ONE), package(ONE, 0, [need(0, 3, version)])), [-2])

    def test_needs_that_do_not_rise(self):
        for numbers in ((0, 0), (1, 0), (0, 2, 1), (0, 1, 1), (1, 2, 3, 0)):
            needs = [on(number) for number in numbers]
            self.assertEqual(last(*FIVE, package(ONE, 0, needs)), [-2])

    def test_need_that_does_not_hold(self):
        tree = [package((1, 2, 3)), package((1, 2, 3))]
        below = need(0, 0, (1, 2, 2))
        self.assertEqual(last(*tree, package(ONE, 0, [below])), [-5])
        self.assertEqual(last(*tree, package(ONE, 0, [on(0), need(1, 3, (1, 2, 4))])), [-5])
        self.assertEqual(last(*tree, package(ONE, 0, [below, on(1)])), [-5])

    def test_group_of_another_version(self):
        for version in ((1, 0, 1), (1, 1, 0), (2, 0, 0), (0, 0, 0)):
            self.assertEqual(last(package(ONE, 1000), package(version, 1000)), [-5])
        self.assertEqual(last(package(ONE, 1), package((2, 0, 0), 2), package((2, 0, 0), 1)), [-5])


class SeveralRefusals(unittest.TestCase):
    """Of several refusals that apply the one told first counts."""

    def test_bad_form_before_all(self):
        high = package((1001, 0, 0), 0, [need(9, 9, ONE)])
        self.assertEqual(last(package(ONE), *A_PLAN, high), [-1])
        self.assertEqual(last(*SIX, high), [-1])
        self.assertEqual(last(high), [-1])
        self.assertEqual(last(package(ONE, 3), package((1001, 0, 0), 3)), [-1])

    def test_five_needs_before_their_form(self):
        self.assertEqual(last(package(ONE), package(ONE, 0, [need(9, 9, ONE)] * 5)), [-1])

    def test_a_plan_before_six(self):
        self.assertEqual(last(*SIX, *A_PLAN, package(ONE)), [-3])

    def test_a_plan_before_needs_and_group(self):
        tree = [package(ONE, 3), *A_PLAN]
        self.assertEqual(last(*tree, package(ONE, 0, [on(1)])), [-3])
        self.assertEqual(last(*tree, package((2, 0, 0), 3)), [-3])

    def test_six_before_needs_and_group(self):
        six = [package(ONE, 3)] * 6
        self.assertEqual(last(*six, package(ONE, 0, [on(6)])), [-7])
        self.assertEqual(last(*six, package(ONE, 0, [on(1), on(0)])), [-7])
        self.assertEqual(last(*six, package((2, 0, 0), 3)), [-7])

    def test_form_of_needs_before_what_they_hold(self):
        too_high = need(0, 3, (9, 0, 0))
        tree = [package(ONE, 3)]
        self.assertEqual(last(*tree, package(ONE, 0, [too_high, on(1)])), [-2])
        self.assertEqual(last(*tree, package(ONE, 0, [too_high, too_high])), [-2])
        self.assertEqual(last(*tree, package((2, 0, 0), 3, [need(0, 4, ONE)])), [-2])


class AfterARefusal(unittest.TestCase):
    def test_no_number_is_taken(self):
        refused = [package((1001, 0, 0)), package(ONE, 0, [on(5)]), package((2, 0, 0), 4)]
        told = ask(package(ONE, 4), *refused, package(ONE, 4))
        self.assertEqual(told, [[0], [-1], [-2], [-5], [1]])

    def test_the_steps_stay(self):
        tree = [package(ONE), note(2, [0])]
        refused = [package(ONE, 0, [need(0, 0, (1, 0, 1))]), package(ONE, 1001)]
        self.assertEqual(last(*tree, *refused, LOOK), listed(step(0, 2, (1, 1, 0))))

    def test_the_plan_stays(self):
        told = ask(package(ONE), *A_PLAN, package(ONE), READY, PLAN)
        self.assertEqual(told[3:], [[-3], [1, 0], [-3]])

    def test_the_seventh_leaves_six(self):
        told = last(*SIX, package(ONE), note(1, [0, 1, 2, 3, 4, 5, 6]))
        self.assertEqual(told, [-2])


if __name__ == "__main__":
    unittest.main()
