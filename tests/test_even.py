import unittest
from unittest import mock

from tests.lines import FOUR_IN_TURN, LARGEST, LEMON_ROSE_CEDAR, ask, begins, course, even, fewest, last, material, shelf


class AnOrder(unittest.TestCase):
    def test_of_one(self):
        # One drop to five are as even: fewer drops decide.
        self.assertEqual(last(begins(20), material(50, 24, 5), even(0)), [24, 1, 1, 1])
        self.assertEqual(last(*LEMON_ROSE_CEDAR, even(0)), [4, 1, 1, 1, 0, 0])
        self.assertEqual(last(*LEMON_ROSE_CEDAR, even(1)), [16, 1, 1, 0, 1, 0])
        self.assertEqual(last(*LEMON_ROSE_CEDAR, even(2)), [24, 1, 1, 0, 0, 1])

    def test_of_two(self):
        # At 3 a drop of lemon has 22 1/2 and a drop of rose 24 3/8.
        self.assertEqual(last(*LEMON_ROSE_CEDAR, even(0, 1)), [4, 3, 1, 2, 1, 0])
        self.assertEqual(last(*LEMON_ROSE_CEDAR, even(0, 2)), [4, 2, 1, 1, 0, 1])

    def test_of_two_with_many_more_drops_than_the_fewest(self):
        # Rose leads till t where its drops by cedar's are at least 2 (24 - t) by 9 (16 - t):
        # 26/45 at 11, 2/3 at 12. So for 12 times 3/5 does, and no other.
        self.assertEqual(last(*LEMON_ROSE_CEDAR, fewest(1, 2)), [2, 10, 1, 0, 1, 1])
        self.assertEqual(last(*LEMON_ROSE_CEDAR, even(1, 2)), [12, 8, 1, 0, 3, 5])

    def test_of_three(self):
        self.assertEqual(last(*LEMON_ROSE_CEDAR, course(2, 1, 1)), [24, 0, 4, 1, 10, 2, 10])
        self.assertEqual(last(*LEMON_ROSE_CEDAR, even(0, 1, 2)), [4, 4, 1, 2, 1, 1])

    def test_of_four(self):
        self.assertEqual(last(*FOUR_IN_TURN, even(1, 3, 2, 0)), [2, 4, 1, 1, 1, 1, 1])

    def test_of_four_with_more_drops_than_the_fewest(self):
        # The first lasts 3, so none is more even than 3. At 2 a drop has 33 1/3, 45, 34 2/3 and 18 1/3:
        # for 3 times it takes 2 drops against 1 of the second, 3 against 2; with 1 the second leads at 3 and 4 alone.
        line = shelf((100, 3, 5), (60, 8, 5), (40, 15, 5), (20, 24, 5))
        self.assertEqual(last(*line, course(1, 1, 1, 1)), [24, 0, 2, 1, 3, 2, 6, 3, 13])
        self.assertEqual(last(*line, course(2, 1, 1, 1)), [24, 0, 3, 1, 2, 2, 6, 3, 13])
        self.assertEqual(last(*line, course(3, 2, 1, 1)), [24, 0, 3, 1, 4, 2, 4, 3, 13])
        self.assertEqual(last(*line, fewest(0, 1, 2, 3)), [4, 2, 1, 1, 1, 1, 1])
        self.assertEqual(last(*line, even(0, 1, 2, 3)), [3, 7, 1, 3, 2, 1, 1])

    def test_the_numbers_need_not_rise(self):
        line = shelf((10, 24, 5), (30, 16, 5), (90, 4, 5))
        self.assertEqual(last(*line, even(2, 1, 0)), [4, 4, 1, 1, 1, 2])

    def test_of_as_even_ones_fewer_drops_decide(self):
        # 10 and 12 with these drops: 2 1, 3 1, 4 1, 5 1, 3 2, 4 2 and so on have the first lead for 2 times.
        line = shelf((10, 2, 5), (12, 4, 5))
        for formula in ((2, 1), (3, 1), (4, 2), (4, 1), (5, 2)):
            self.assertEqual(last(*line, course(*formula)), [4, 0, 2, 1, 2])
        self.assertEqual(last(*line, even(0, 1)), [2, 3, 1, 2, 1])

    def test_one_that_never_leads_takes_no_drops(self):
        line = shelf((1, 2, 5), (90, 4, 5), (30, 16, 5))
        self.assertEqual(last(*line, course(5, 2, 1)), [16, 1, 4, 2, 12])
        self.assertEqual(last(*line, even(1, 2)), [4, 3, 1, 0, 2, 1])


class TheEmptyOrder(unittest.TestCase):
    def test_with_no_material(self):
        self.assertEqual(ask(even()), [[0, 0, 1]])
        self.assertEqual(ask(begins(20), even()), [[0], [0, 0, 1]])

    def test_with_some(self):
        line = [begins(20)]
        for count in range(1, 5):
            line.append(material(10 * count, count, 5))
            self.assertEqual(last(*line, even()), [0, 0, 1] + [0] * count)

    def test_with_one_of_which_there_may_be_none(self):
        self.assertEqual(last(material(10, 4, 0), even()), [0, 0, 1, 0])


class OnlyWhatMayBe(unittest.TestCase):
    def test_of_one(self):
        for most in range(6):
            line = shelf((90, 4, most), (30, 16, 5), (10, 24, 5))
            wanted = {0: [-6], 1: [3, 3, 1, 1, 1, 1]}.get(most, [4, 4, 1, 2, 1, 1])
            self.assertEqual(last(*line, even(0, 1, 2)), wanted)

    def test_of_the_last(self):
        # With 4 drops of cedar 2/3, the next but one, has rose lead for 13 times and cedar for 11.
        for most, wanted in ((5, [12, 8, 1, 0, 3, 5]), (4, [11, 5, 1, 0, 2, 3]), (3, [11, 5, 1, 0, 2, 3])):
            line = shelf((90, 4, 5), (30, 16, 5), (10, 24, most))
            self.assertEqual(last(*line, even(1, 2)), wanted)

    def test_all_together(self):
        for drops, wanted in (
                (20, [12, 8, 1, 0, 3, 5]), (9, [12, 8, 1, 0, 3, 5]), (8, [12, 8, 1, 0, 3, 5]),
                (7, [11, 5, 1, 0, 2, 3]), (5, [11, 5, 1, 0, 2, 3]), (4, [10, 2, 1, 0, 1, 1]), (2, [10, 2, 1, 0, 1, 1]),
                (1, [-6])):
            line = shelf((90, 4, 5), (30, 16, 5), (10, 24, 5), drops=drops)
            self.assertEqual(last(*line, even(1, 2)), wanted)

    def test_never_begun(self):
        line = [material(90, 4, 5), material(30, 16, 5)]
        self.assertEqual(last(*line, even(0)), [4, 1, 1, 1, 0])
        self.assertEqual(last(*line, even(0, 1)), [-6])


class Refused(unittest.TestCase):
    def test_a_material_is_not_there(self):
        for count in range(5):
            line = shelf(*[(10, 4, 5)] * count)
            for number in (count, count + 1, 5, 6, LARGEST):
                self.assertEqual(last(*line, even(number)), [-1])
                if count:
                    self.assertEqual(last(*line, even(0, number)), [-1])
                    self.assertEqual(last(*line, even(number, 0)), [-1])

    def test_one_is_told_twice(self):
        for order in ((0, 0), (2, 2), (0, 1, 0), (0, 1, 1), (0, 0, 1), (0, 1, 2, 0), (0, 1, 2, 2), (1, 1, 1)):
            self.assertEqual(last(*LEMON_ROSE_CEDAR, even(*order)), [-4])

    def test_one_is_told_twice_of_which_there_may_be_none(self):
        self.assertEqual(last(material(10, 4, 0), even(0, 0)), [-4])

    def test_both_at_once(self):
        for order in ((0, 0, 3), (3, 0, 0), (3, 3), (0, 3, 0), (0, LARGEST, 1, LARGEST), (2, 2, 4)):
            self.assertEqual(last(*LEMON_ROSE_CEDAR, even(*order)), [-1])

    def test_five_and_six_numbers(self):
        for order in ((1, 3, 2, 0, 1), (1, 3, 2, 0, 0), (1, 3, 2, 0, 1, 3), (0,) * 5, (3,) * 6):
            self.assertEqual(last(*FOUR_IN_TURN, even(*order)), [-4])
        for order in ((1, 3, 2, 0, 4), (4, 1, 3, 2, 0), (1, 3, 2, 0, 4, 5), (0, 0, 0, 0, 0, 4), (LARGEST,) * 6):
            self.assertEqual(last(*FOUR_IN_TURN, even(*order)), [-1])

    def test_no_formula_has_it(self):
        for order in ((1, 0), (2, 0), (2, 1), (2, 1, 0), (0, 2, 1), (1, 0, 2)):
            self.assertEqual(last(*LEMON_ROSE_CEDAR, even(*order)), [-6])
        self.assertEqual(last(*FOUR_IN_TURN, even(0, 1, 2, 3)), [-6])
        self.assertEqual(last(*shelf((10, 4, 5), (90, 4, 5)), even(0, 1)), [-6])

    def test_no_formula_has_it_as_there_may_be_none(self):
        line = shelf((90, 4, 0), (30, 16, 5))
        self.assertEqual(last(*line, even(0)), [-6])
        self.assertEqual(last(*line, even(0, 1)), [-6])
        self.assertEqual(last(*line, even(1)), [16, 1, 1, 0, 1])

    def test_all_is_as_it_was(self):
        for order, refusal in (((3,), -1), ((LARGEST,) * 6, -1), ((0, 0), -4), ((1, 0), -6)):
            line = [*LEMON_ROSE_CEDAR, even(*order)]
            self.assertEqual(last(*line), [refusal])
            self.assertEqual(last(*line, even(0, 1, 2)), [4, 4, 1, 2, 1, 1])
            self.assertEqual(last(*line, course(5, 5, 5))[0], 24)
            self.assertEqual(last(*line, material(1, 1, 1)), [3])

    def test_all_is_as_it_was_after_an_answer(self):
        line = [*LEMON_ROSE_CEDAR, even(0, 1, 2)]
        self.assertEqual(last(*line, even(0, 1, 2)), [4, 4, 1, 2, 1, 1])
        self.assertEqual(last(*line, course(1, 1, 1)), [24, 0, 3, 1, 11, 2, 10])
        self.assertEqual(last(*line, material(1, 1, 1)), [3])


class AsGood(unittest.TestCase):
    """Materials that fade as told never have two formulas as good, so here they lead in a made-up way."""

    def last(self, turns, *line):
        with mock.patch("smelledwhen.shelf.turns", turns):
            return last(*line)

    def test_counted_and_the_earliest_given(self):
        def turns(materials, formula):
            return [0, 9, 1, 5 if sum(formula) >= 3 else 4] if formula[0] else []
        line = shelf((10, 4, 3), (10, 4, 3))
        # As even are those with 3 drops and more; with 3 there are 1 2, 2 1 and 3 0.
        self.assertEqual(self.last(turns, *line, even(0, 1)), [5, 3, 3, 1, 2])

    def test_the_most_even_has_more_drops(self):
        def turns(materials, formula):
            return [1, 1 + formula[0] * formula[1], 0, 20]
        line = shelf((10, 4, 2), (10, 4, 2), (10, 4, 2), drops=3)
        # Two of the first two are the most even: 1 2 0 and 2 1 0.
        self.assertEqual(self.last(turns, *line, even(1, 0)), [3, 3, 2, 1, 2, 0])

    def test_fewer_drops_do_not_outweigh_how_even(self):
        def turns(materials, formula):
            return [0, 1 + sum(formula)]
        line = shelf((10, 4, 5), (10, 4, 5), drops=4)
        self.assertEqual(self.last(turns, *line, even(0)), [5, 4, 5, 0, 4])
        self.assertEqual(self.last(turns, *line, fewest(0)), [0, 1, 1, 0, 0])

    def test_only_those_of_this_order_count(self):
        def turns(materials, formula):
            return [formula[0] % 2, 4] if formula[1] else []
        line = shelf((10, 4, 5), (10, 4, 5))
        self.assertEqual(self.last(turns, *line, even(1)), [4, 2, 1, 1, 1])
        self.assertEqual(self.last(turns, *line, even(0)), [4, 1, 1, 0, 1])
        self.assertEqual(self.last(turns, *line, even()), [0, 0, 1, 0, 0])
