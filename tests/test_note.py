"""note: its number, each refusal by each of its causes, and where it waits."""

import unittest

from tests.helper import BEGINS, LOOK, PLAN, READY, ask, last, note, package, step, listed
from treegiven.plans import answer_plan, answer_ready
from treegiven.state import House
from treegiven.tree import answer_note, answer_package

MOST = 4294967295
ONE = (1, 0, 0)
TWO = [package(ONE), package(ONE)]
THIRTY = [note(1, [0])] * 30


class Accepted(unittest.TestCase):
    def test_numbers_in_order(self):
        told = ask(*TWO, note(1, [0]), note(2, [1]), note(3, [0, 1]))
        self.assertEqual(told[2:], [[0], [1], [2]])

    def test_about_all_six(self):
        self.assertEqual(last(*[package(ONE)] * 6, note(1, [0, 1, 2, 3, 4, 5])), [0])

    def test_thirty(self):
        told = ask(package(ONE), *THIRTY)
        self.assertEqual(told[1:], [[number] for number in range(30)])

    def test_waits_just_where_it_is_about(self):
        told = last(*[package(ONE)] * 4, note(2, [1, 3]), LOOK)
        self.assertEqual(told, listed(step(1, 2, (1, 1, 0)), step(3, 2, (1, 1, 0))))


class Refused(unittest.TestCase):
    def test_level(self):
        for level in (0, 4, MOST):
            self.assertEqual(last(*TWO, note(level, [0])), [-1])

    def test_no_packages(self):
        self.assertEqual(last(*TWO, note(1, [])), [-1])

    def test_packages_that_do_not_rise(self):
        for numbers in ([0, 0], [1, 0], [0, 1, 1], [0, 1, 0]):
            self.assertEqual(last(*TWO, note(1, numbers)), [-1])

    def test_no_such_package(self):
        for numbers in ([2], [0, 2], [0, 1, MOST], list(range(10))):
            self.assertEqual(last(*TWO, note(1, numbers)), [-2])
        self.assertEqual(last(note(1, [0])), [-2])

    def test_the_thirty_first(self):
        self.assertEqual(last(package(ONE), *THIRTY, note(1, [0])), [-7])

    def test_bad_form_before_no_such_package(self):
        for call in (note(0, [2]), note(4, [2]), note(1, [2, 2]), note(1, [3, 2])):
            self.assertEqual(last(*TWO, call), [-1])
        self.assertEqual(last(note(1, [])), [-1])

    def test_bad_form_before_thirty(self):
        for call in (note(0, [0]), note(4, [0]), note(1, []), note(1, [0, 0])):
            self.assertEqual(last(package(ONE), *THIRTY, call), [-1])

    def test_no_such_package_before_thirty(self):
        self.assertEqual(last(package(ONE), *THIRTY, note(1, [1])), [-2])


class AfterARefusal(unittest.TestCase):
    def test_no_number_is_taken(self):
        told = ask(*TWO, note(1, [0]), note(0, [0]), note(1, [2]), note(1, [1]))
        self.assertEqual(told[2:], [[0], [-1], [-2], [1]])

    def test_refused_notes_do_not_count_to_thirty(self):
        told = ask(package(ONE), *[note(0, [0])] * 20, *THIRTY)
        self.assertEqual(told[-1], [29])

    def test_waits_nowhere(self):
        for refused in (note(4, [0]), note(3, [0, 2]), note(3, [1, 0]), note(3, [0, 0])):
            self.assertEqual(last(*TWO, refused, LOOK), [0])

    def test_the_thirty_first_waits_nowhere(self):
        told = last(*TWO, *THIRTY, note(3, [1]), LOOK)
        self.assertEqual(told, listed(step(0, 1, (1, 0, 1))))


class WhilePlanned(unittest.TestCase):
    def test_is_taken_and_leaves_the_plan(self):
        told = ask(*TWO, note(1, [0]), PLAN, note(3, [0, 1]), READY, PLAN, LOOK)
        self.assertEqual(told[3:], [listed(step(0, 1, (1, 0, 1))), [1], [1, 0], [-3], [-3]])

    def test_is_refused_as_ever(self):
        told = ask(*TWO, note(1, [0]), PLAN, note(0, [0]), note(1, [2]))
        self.assertEqual(told[4:], [[-1], [-2]])

    def test_waits_outside_the_steps(self):
        house = House()
        answer_package(house, ONE, 0, [])
        answer_package(house, ONE, 0, [])
        answer_note(house, 1, [0])
        answer_plan(house)
        self.assertEqual(answer_note(house, 3, [0, 1]), [1])
        planned = [(one.package, one.level, one.version, one.notes) for one in house.plan]
        self.assertEqual(planned, [(0, 1, (1, 0, 1), [0])])
        self.assertEqual([one.waiting for one in house.packages], [[0, 1], [1]])
        self.assertEqual(answer_ready(house), [1, 0])

    def test_numbers_begin_anew_with_begins(self):
        told = last(package(ONE), note(1, [0]), BEGINS, package(ONE), note(1, [0]))
        self.assertEqual(told, [0])


if __name__ == "__main__":
    unittest.main()
