"""The interface: how calls lie in the list, the shape of what is given back, and begins."""

import contextlib
import io
import unittest

from tests.helper import BEGINS, LOOK, PLAN, READY, ask, joined, last, need, note, package
from treegiven.house import answers
from treegiven.reading import read_calls

ONE = (1, 0, 0)
BUSY = [package(ONE, 3), package(ONE, 3, [need(0, 0, ONE)]), note(2, [0]), PLAN, note(1, [1])]


class Shape(unittest.TestCase):
    def test_one_call(self):
        self.assertEqual(answers([0, 0, 0]), [1, 0])
        self.assertEqual(answers([1, 4, 1, 2, 3, 0, 0]), [1, 0])
        self.assertEqual(answers([2, 1, 1, 1, 0]), [1, -1])
        self.assertEqual(answers([3, 0, 0]), [1, 0])
        self.assertEqual(answers([4, 0, 0]), [1, 0])
        self.assertEqual(answers([5, 0, 0]), [1, 0])
        self.assertEqual(answers([6, 1, 0, 0]), [1, -4])
        self.assertEqual(answers([7, 0, 0]), [1, -3])
        self.assertEqual(answers([8, 4, 0, 1, 0, 0, 0]), [1, -2])
        self.assertEqual(answers([9, 4, 0, 1, 0, 0, 0]), [1, -2])
        self.assertEqual(answers([10, 1, 0, 0]), [1, -2])
        self.assertEqual(answers([11, 0, 0]), [1, 0])

    def test_several_calls(self):
        calls = [
            1, 4, 1, 2, 3, 0, 0,
            1, 4, 1, 0, 0, 0, 1, 5, 0, 0, 1, 2, 3,
            1, 4, 1, 0, 0, 0, 2, 5, 0, 3, 0, 0, 0, 5, 1, 1, 1, 0, 0,
            2, 1, 3, 1, 1, 0,
            2, 1, 1, 1, 2, 0, 2,
            2, 1, 9, 1, 2, 0, 2,
            3, 0, 0,
            4, 0, 0,
            3, 0, 0,
            5, 0, 0,
            0, 0, 0,
            5, 0, 0,
        ]
        steps = [16, 3, 0, 3, 2, 0, 0, 1, 1, 1, 0, 1, 2, 1, 1, 0, 1]
        told = [1, 0, 1, 1, 1, 2, 1, 0, 1, 1, 1, -1] + steps + steps + [1, -3, 2, 1, 0, 1, 0, 1, 0]
        self.assertEqual(answers(calls), told)

    def test_several_calls_on_what_is_out(self):
        calls = [
            1, 4, 1, 2, 3, 0, 0,
            1, 4, 1, 0, 0, 0, 1, 5, 0, 0, 1, 2, 3,
            2, 1, 2, 1, 1, 0,
            4, 0, 0,
            6, 1, 1, 0,
            6, 1, 0, 0,
            8, 4, 0, 1, 2, 3, 0,
            8, 4, 0, 1, 3, 0, 0,
            2, 1, 1, 1, 1, 1,
            7, 0, 0,
            11, 0, 0,
            4, 0, 0,
            6, 1, 1, 0,
            8, 4, 1, 1, 0, 0, 0,
            9, 4, 1, 1, 0, 0, 0,
            9, 4, 1, 1, 0, 1, 0,
            10, 1, 1, 0,
            7, 0, 0,
        ]
        told = [1, 0, 1, 1, 1, 0, 11, 2, 0, 2, 1, 3, 0, 1, 1, 1, 0, 1, 1, -5, 1, 1, 1, -6, 1, -4, 1, 1, 2, 1, 1]
        told += [9, 2, 1, 3, 0, 0, 1, 0, 0, 1, 6, 1, 1, 1, 1, 0, 1, 1, 0, 1, 0, 1, -2, 5, 1, 0, 1, 3, 0]
        told += [12, 2, 1, 0, 0, 1, 0, 1, 0, 1, 0, 1, 1, 1, -3]
        self.assertEqual(answers(calls), told)

    def test_refused_calls_are_read_to_their_end(self):
        six_needs = package(ONE, 0, [need(0, 0, ONE)] * 6)
        self.assertEqual(ask(six_needs, note(1, list(range(10))), note(0, []), package(ONE)), [[-1], [-2], [-1], [0]])

    def test_sixty_calls(self):
        self.assertEqual(answers(LOOK * 60), [1, 0] * 60)

    def test_plain_whole_numbers(self):
        told = answers(joined([*BUSY, READY, LOOK, BEGINS, LOOK]))
        self.assertIs(type(told), list)
        self.assertEqual({type(number) for number in told}, {int})

    def test_each_of_the_twelve_is_read(self):
        calls = [BEGINS, package(ONE, 2, [need(0, 1, ONE)]), note(1, [0, 1]), LOOK, PLAN, READY]
        calls += [[6, 1, 5, 0], [7, 0, 0], [8, 4, 5, 1, 2, 3, 0], [9, 4, 5, 1, 2, 3, 0], [10, 1, 5, 0], [11, 0, 0]]
        read = read_calls(joined(calls))
        self.assertEqual([one.number for one in read], list(range(12)))
        wholes = [[], [1, 0, 0, 2], [1], [], [], [], [5], [], [5, 1, 2, 3], [5, 1, 2, 3], [5], []]
        self.assertEqual([one.whole for one in read], wholes)
        self.assertEqual([one.lists for one in read], [[], [[0, 1, 1, 0, 0]], [[0, 1]]] + [[]] * 9)


class NothingKept(unittest.TestCase):
    def test_what_is_handed_in_stays(self):
        calls = joined([*BUSY, LOOK, READY, package((1001, 0, 0)), BEGINS, package(ONE)])
        before = list(calls)
        answers(calls)
        self.assertEqual(calls, before)

    def test_twice_the_same(self):
        calls = joined([*BUSY, READY])
        first = answers(calls)
        self.assertEqual(answers(calls), first)

    def test_each_list_is_a_house_of_its_own(self):
        answers(joined(BUSY))
        self.assertEqual(ask(READY, LOOK, package((9, 9, 9), 3)), [[0], [0], [0]])

    def test_what_is_given_back_is_new(self):
        calls = joined([*BUSY, READY])
        first = answers(calls)
        kept = list(first)
        first.clear()
        self.assertEqual(answers(calls), kept)

    def test_prints_nothing(self):
        shown = io.StringIO()
        with contextlib.redirect_stdout(shown), contextlib.redirect_stderr(shown):
            answers(joined([*BUSY, READY, LOOK]))
        self.assertEqual(shown.getvalue(), "")


class Begins(unittest.TestCase):
    def test_answers_zero(self):
        self.assertEqual(ask(BEGINS, BEGINS, *BUSY, BEGINS)[-1], [0])
        self.assertEqual(last(BEGINS), [0])

    def test_no_plan_and_no_packages(self):
        self.assertEqual(ask(*BUSY, BEGINS, READY, LOOK, note(1, [0]))[-3:], [[0], [0], [-2]])

    def test_as_at_the_beginning(self):
        after = [package((2, 0, 0), 3), note(1, [0]), LOOK, package((2, 0, 0), 3), PLAN, READY, LOOK]
        self.assertEqual(ask(*BUSY, BEGINS, *after)[len(BUSY) + 1:], ask(*after))

    def test_six_packages_and_thirty_notes_anew(self):
        told = ask(*[package(ONE)] * 6, *[note(1, [0])] * 20, BEGINS, package(ONE), *[note(1, [0])] * 30)
        self.assertEqual(told[-1], [29])
        told = ask(*[package(ONE)] * 6, BEGINS, *[package(ONE)] * 6, package(ONE))
        self.assertEqual(told[-2:], [[5], [-7]])


if __name__ == "__main__":
    unittest.main()
