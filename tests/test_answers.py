import builtins
import contextlib
import inspect
import io
import random
import unittest
from unittest import mock

import smelledwhen.shelf
from smelledwhen.shelf import answers
from tests.lines import LARGEST, ask, begins, course, even, fewest, joined, last, material, orders

# All six calls, with refusals in the midst.
SOME = [
    begins(20), material(90, 4, 5), material(0, 4, 5), material(30, 16, 5), material(10, 24, 5),
    course(1, 1, 1), course(1, 1), course(6, 0, 0), fewest(0, 1, 2), even(0, 3), course(0, 0, 0), begins(0),
    even(0, 1, 2), orders(), course(0, 0, 2),
]
SOME_ANSWERS = [
    [0], [0], [-1], [1], [2],
    [24, 0, 3, 1, 11, 2, 10], [-1], [-4], [3, 3, 1, 1, 1, 1], [-1], [0], [-1],
    [4, 4, 1, 2, 1, 1], [8, 0, 1, 0, 2, 0, 1, 3, 0, 1, 2, 2, 0, 2, 1, 1, 2, 1, 2, 1, 2], [24, 2, 24],
]


class Unchangeable(list):
    """A list that tells when somebody tries to change it, be it for a while."""

    def refuse(self, *args, **kwargs):
        raise AssertionError("what is handed in is changed")

    append = clear = extend = insert = pop = remove = reverse = sort = refuse
    __setitem__ = __delitem__ = __iadd__ = __imul__ = refuse


class TheList(unittest.TestCase):
    def test_its_one_argument_is_called_calls(self):
        self.assertEqual(list(inspect.signature(answers).parameters), ["calls"])
        self.assertEqual(answers(calls=[0, 1]), [1, 0])

    def test_one_call(self):
        self.assertEqual(answers([0, 20]), [1, 0])
        self.assertEqual(answers([0, 0]), [1, -1])
        self.assertEqual(answers([1, 5, 5, 5]), [1, 0])
        self.assertEqual(answers([1, 5, 5, 6]), [1, -1])
        self.assertEqual(answers([2, 0]), [1, 0])
        self.assertEqual(answers([2, 6, 0, 1, 2, 3, 4, 5]), [1, -1])
        self.assertEqual(answers([3, 0]), [3, 0, 0, 1])
        self.assertEqual(answers([3, 6, 0, 1, 2, 3, 4, 5]), [1, -1])
        self.assertEqual(answers([4, 0]), [3, 0, 0, 1])
        self.assertEqual(answers([4, 6, 0, 1, 2, 3, 4, 5]), [1, -1])
        self.assertEqual(answers([5]), [2, 1, 0])

    def test_how_many_numbers_stand_ahead_of_them(self):
        line = [0, 3, 1, 90, 4, 5, 1, 30, 16, 5, 1, 10, 24, 5, 2, 3, 1, 1, 1, 2, 3, 0, 0, 0, 2, 0]
        self.assertEqual(answers(line), [1, 0, 1, 0, 1, 1, 1, 2, 7, 24, 0, 3, 1, 11, 2, 10, 1, 0, 1, -1])
        line = [0, 3, 1, 90, 4, 5, 1, 30, 16, 5, 3, 2, 0, 1, 4, 2, 0, 1, 5, 3, 2, 1, 0]
        self.assertEqual(
            answers(line),
            [1, 0, 1, 0, 1, 1, 5, 2, 3, 1, 1, 1, 5, 4, 3, 1, 2, 1, 9, 4, 0, 1, 0, 2, 0, 1, 1, 1, 1, -6])

    def test_further_calls_behind_a_refusal(self):
        self.assertEqual(ask(*SOME), SOME_ANSWERS)

    def test_the_formula_is_passed_over_whatever_it_is(self):
        for length in range(7):
            for number in (0, 1, 2, LARGEST):
                rows = ask(material(5, 5, 5), course(*[number] * length), course(1), course(0))
                self.assertEqual(rows[2:], [[5, 0, 5], [0]])

    def test_the_order_is_passed_over_whatever_it_is(self):
        for length in range(7):
            for number in (0, 1, 3, 4, 5, LARGEST):
                for asked in (fewest, even):
                    rows = ask(material(5, 5, 5), asked(*[number] * length), course(1), orders(), course(0))
                    self.assertEqual(rows[2:], [[5, 0, 5], [2, 0, 1, 0], [0]])

    def test_60_calls(self):
        line = [begins(20), material(90, 4, 5), material(30, 16, 5), material(10, 24, 5)]
        rows = ask(*line, *[course(1, 1, 1)] * 56)
        self.assertEqual(rows, [[0], [0], [1], [2]] + [[24, 0, 3, 1, 11, 2, 10]] * 56)
        self.assertEqual(ask(*[begins(1)] * 60), [[0]] * 60)
        self.assertEqual(ask(*[material(1, 1, 1)] * 60), [[0], [1], [2], [3]] + [[-5]] * 56)
        self.assertEqual(ask(*[course(*[LARGEST] * 6)] * 60), [[-1]] * 60)

    def test_60_calls_with_4_of_fewest_even_and_orders(self):
        line = [begins(20), material(90, 4, 5), material(30, 16, 5), *[course(1, 1)] * 26]
        line += [fewest(0, 1), orders(), *[course(1, 1)] * 27, even(0, 1), orders()]
        self.assertEqual(len(line), 60)
        rows = ask(*line)
        self.assertEqual(len(rows), 60)
        self.assertEqual(rows[2:30], [[1]] + [[16, 0, 3, 1, 13]] * 26 + [[2, 3, 1, 1, 1]])
        self.assertEqual(rows[30:], [[4, 0, 1, 0, 2, 0, 1, 1, 1]] + [[16, 0, 3, 1, 13]] * 27 + [
            [4, 3, 1, 2, 1], [4, 0, 1, 0, 2, 0, 1, 1, 1]])

    def test_a_new_list_of_whole_numbers(self):
        line = joined(SOME)
        given = answers(line)
        self.assertIs(type(given), list)
        self.assertEqual({type(number) for number in given}, {int})
        self.assertIsNot(given, line)

    def test_a_call_that_is_not_there_is_not_taken_for_another(self):
        for number in (6, 7, LARGEST):
            with self.assertRaises(smelledwhen.shelf.UnknownCall):
                answers([0, 1, number, 0])


class NothingElse(unittest.TestCase):
    def test_what_is_handed_in_is_the_same_afterwards(self):
        line = joined(SOME)
        kept = list(line)
        answers(line)
        self.assertEqual(line, kept)

    def test_what_is_handed_in_is_not_changed_for_a_while_either(self):
        line = Unchangeable(joined(SOME))
        self.assertEqual(answers(line), answers(list(line)))

    def test_changing_what_is_given_back_changes_nothing(self):
        line = joined(SOME)
        first = answers(line)
        kept = list(first)
        first.clear()
        self.assertEqual(answers(line), kept)

    def test_two_times_in_a_row(self):
        line = joined(SOME)
        self.assertEqual(answers(line), answers(line))

    def test_nothing_is_kept(self):
        ask(begins(20), material(90, 4, 5), material(30, 16, 5))
        self.assertEqual(ask(course()), [[0]])
        self.assertEqual(last(material(5, 5, 5), course(1)), [5, 0, 5])
        self.assertEqual(last(material(5, 5, 5), course(2)), [-4])
        ask(begins(20), material(90, 4, 5), material(30, 16, 5), fewest(0, 1), even(0, 1), orders())
        self.assertEqual(ask(orders(), fewest(), even(), fewest(0)), [[1, 0], [0, 0, 1], [0, 0, 1], [-1]])
        self.assertEqual(last(material(30, 16, 5), material(90, 4, 5), orders()), [3, 0, 1, 0, 1, 1])

    def test_nothing_is_kept_whatever_came_in_between(self):
        source = random.Random(3)
        lines = [joined(source.sample(SOME, len(SOME))) for _ in range(30)]
        alone = [answers(line) for line in lines]
        self.assertEqual([answers(line) for line in reversed(lines)], alone[::-1])

    def test_nothing_is_printed(self):
        out = io.StringIO()
        with contextlib.redirect_stdout(out), contextlib.redirect_stderr(out):
            answers(joined(SOME))
        self.assertEqual(out.getvalue(), "")

    def test_nothing_is_read_or_imported(self):
        line = joined(SOME)
        with mock.patch.object(builtins, "__import__") as importing, mock.patch.object(builtins, "open") as opening, \
                mock.patch.object(builtins, "input") as reading:
            answers(line)
        self.assertEqual((importing.called, opening.called, reading.called), (False, False, False))
