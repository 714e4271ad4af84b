import unittest
from unittest import mock

from tests.lines import FOUR_IN_TURN, LARGEST, LEMON_ROSE_CEDAR, ask, begins, course, fewest, last, material, shelf


class AnOrder(unittest.TestCase):
    def test_of_one(self):
        self.assertEqual(last(material(50, 24, 5), fewest(0)), [1, 24, 1, 1])
        self.assertEqual(last(*LEMON_ROSE_CEDAR, fewest(0)), [1, 4, 1, 1, 0, 0])
        self.assertEqual(last(*LEMON_ROSE_CEDAR, fewest(1)), [1, 16, 1, 0, 1, 0])
        self.assertEqual(last(*LEMON_ROSE_CEDAR, fewest(2)), [1, 24, 1, 0, 0, 1])

    def test_of_two(self):
        self.assertEqual(last(*LEMON_ROSE_CEDAR, fewest(0, 1)), [2, 3, 1, 1, 1, 0])
        self.assertEqual(last(*LEMON_ROSE_CEDAR, fewest(0, 2)), [2, 4, 1, 1, 0, 1])
        self.assertEqual(last(*LEMON_ROSE_CEDAR, fewest(1, 2)), [2, 10, 1, 0, 1, 1])

    def test_of_three(self):
        self.assertEqual(last(*LEMON_ROSE_CEDAR, fewest(0, 1, 2)), [3, 3, 1, 1, 1, 1])

    def test_of_four(self):
        self.assertEqual(last(*FOUR_IN_TURN, fewest(1, 3, 2, 0)), [4, 2, 1, 1, 1, 1, 1])

    def test_the_numbers_need_not_rise(self):
        line = shelf((10, 24, 5), (30, 16, 5), (90, 4, 5))
        self.assertEqual(last(*line, fewest(2, 1, 0)), [3, 3, 1, 1, 1, 1])
        self.assertEqual(last(*line, fewest(2, 1)), [2, 3, 1, 0, 1, 1])

    def test_with_more_than_a_drop_of_one(self):
        # One drop of the first has 10, less than the 12 that a drop of the second has.
        self.assertEqual(last(*shelf((10, 2, 5), (12, 4, 5)), fewest(0, 1)), [3, 2, 1, 2, 1])
        self.assertEqual(last(*shelf((12, 4, 5), (10, 2, 5)), fewest(1, 0)), [3, 2, 1, 1, 2])

    def test_with_as_many_drops_as_there_may_be(self):
        # 20 against 96 takes 5 drops; 19 against 96 would take 6. At 1 they have 50 and 72.
        self.assertEqual(last(*shelf((20, 2, 5), (96, 4, 5)), fewest(0, 1)), [6, 1, 1, 5, 1])
        self.assertEqual(last(*shelf((19, 2, 5), (96, 4, 5)), fewest(0, 1)), [-6])

    def test_the_earliest_of_as_few_need_not_be_the_most_even_of_all(self):
        self.assertEqual(last(*LEMON_ROSE_CEDAR, course(1, 1, 1)), [24, 0, 3, 1, 11, 2, 10])
        self.assertEqual(last(*LEMON_ROSE_CEDAR, course(2, 1, 1)), [24, 0, 4, 1, 10, 2, 10])
        self.assertEqual(last(*LEMON_ROSE_CEDAR, fewest(0, 1, 2)), [3, 3, 1, 1, 1, 1])

    def test_how_even_is_the_fewest_times_wherever_they_stand(self):
        # 12 - 6t, 6 - t/2 and 4 - t/6: at 1 the first two have 6 and 5 1/2.
        self.assertEqual(last(*shelf((12, 2, 1), (6, 12, 1), (4, 24, 1)), fewest(0, 1, 2)), [3, 2, 1, 1, 1, 1])
        # 180 - 30t, 120 - 15t and 50 - 25t/12: the second leads at 5 alone, with 45 against 30 and 39 7/12.
        line = shelf((90, 6, 5), (60, 8, 5), (50, 24, 5))
        self.assertEqual(last(*line, course(2, 2, 1)), [24, 0, 5, 1, 1, 2, 18])
        self.assertEqual(last(*line, fewest(0, 1, 2)), [5, 1, 1, 2, 2, 1])
        # 12 - 2t, 8 - 2t/3 and 2 - t/7: the first two have 6 at 3, and the last leads at 12 and 13.
        line = shelf((12, 6, 1), (8, 12, 1), (2, 14, 1))
        self.assertEqual(last(*line, course(1, 1, 1)), [14, 0, 4, 1, 8, 2, 2])
        self.assertEqual(last(*line, fewest(0, 1, 2)), [3, 2, 1, 1, 1, 1])


class TheEmptyOrder(unittest.TestCase):
    def test_with_no_material(self):
        self.assertEqual(ask(fewest()), [[0, 0, 1]])
        self.assertEqual(ask(begins(20), fewest()), [[0], [0, 0, 1]])

    def test_with_some(self):
        line = [begins(20)]
        for count in range(1, 5):
            line.append(material(10 * count, count, 5))
            self.assertEqual(last(*line, fewest()), [0, 0, 1] + [0] * count)

    def test_with_one_of_which_there_may_be_none(self):
        self.assertEqual(last(material(10, 4, 0), fewest()), [0, 0, 1, 0])


class OnlyWhatMayBe(unittest.TestCase):
    def test_of_one(self):
        for most in range(6):
            wanted = [3, 2, 1, 2, 1] if most >= 2 else [-6]
            self.assertEqual(last(*shelf((10, 2, most), (12, 4, 5)), fewest(0, 1)), wanted)

    def test_of_another(self):
        for most in range(6):
            wanted = [3, 2, 1, 2, 1] if most >= 1 else [-6]
            self.assertEqual(last(*shelf((10, 2, 5), (12, 4, most)), fewest(0, 1)), wanted)

    def test_all_together(self):
        for drops in range(1, 21):
            wanted = [3, 2, 1, 2, 1] if drops >= 3 else [-6]
            self.assertEqual(last(*shelf((10, 2, 5), (12, 4, 5), drops=drops), fewest(0, 1)), wanted)

    def test_never_begun(self):
        line = [material(90, 4, 5), material(30, 16, 5)]
        self.assertEqual(last(*line, fewest(0)), [1, 4, 1, 1, 0])
        self.assertEqual(last(*line, fewest(1)), [1, 16, 1, 0, 1])
        self.assertEqual(last(*line, fewest(0, 1)), [-6])


class Refused(unittest.TestCase):
    def test_a_material_is_not_there(self):
        for count in range(5):
            line = shelf(*[(10, 4, 5)] * count)
            for number in (count, count + 1, 5, 6, LARGEST):
                self.assertEqual(last(*line, fewest(number)), [-1])
                if count:
                    self.assertEqual(last(*line, fewest(0, number)), [-1])
                    self.assertEqual(last(*line, fewest(number, 0)), [-1])

    def test_one_is_told_twice(self):
        for order in ((0, 0), (2, 2), (0, 1, 0), (0, 1, 1), (0, 0, 1), (0, 1, 2, 0), (0, 1, 2, 2), (1, 1, 1)):
            self.assertEqual(last(*LEMON_ROSE_CEDAR, fewest(*order)), [-4])

    def test_one_is_told_twice_of_which_there_may_be_none(self):
        self.assertEqual(last(material(10, 4, 0), fewest(0, 0)), [-4])

    def test_both_at_once(self):
        for order in ((0, 0, 3), (3, 0, 0), (3, 3), (0, 3, 0), (0, LARGEST, 1, LARGEST), (2, 2, 4)):
            self.assertEqual(last(*LEMON_ROSE_CEDAR, fewest(*order)), [-1])

    def test_five_and_six_numbers(self):
        for order in ((1, 3, 2, 0, 1), (1, 3, 2, 0, 0), (1, 3, 2, 0, 1, 3), (0,) * 5, (3,) * 6):
            self.assertEqual(last(*FOUR_IN_TURN, fewest(*order)), [-4])
        for order in ((1, 3, 2, 0, 4), (4, 1, 3, 2, 0), (1, 3, 2, 0, 4, 5), (0, 0, 0, 0, 0, 4), (LARGEST,) * 6):
            self.assertEqual(last(*FOUR_IN_TURN, fewest(*order)), [-1])

    def test_no_formula_has_it(self):
        for order in ((1, 0), (2, 0), (2, 1), (2, 1, 0), (0, 2, 1), (1, 0, 2)):
            self.assertEqual(last(*LEMON_ROSE_CEDAR, fewest(*order)), [-6])
        self.assertEqual(last(*FOUR_IN_TURN, fewest(0, 1, 2, 3)), [-6])

    def test_no_formula_has_it_as_they_last_as_long(self):
        line = shelf((10, 4, 5), (90, 4, 5))
        self.assertEqual(last(*line, fewest(0, 1)), [-6])
        self.assertEqual(last(*line, fewest(1, 0)), [-6])

    def test_no_formula_has_it_as_there_may_be_none(self):
        line = shelf((90, 4, 0), (30, 16, 5))
        self.assertEqual(last(*line, fewest(0)), [-6])
        self.assertEqual(last(*line, fewest(0, 1)), [-6])
        self.assertEqual(last(*line, fewest(1)), [1, 16, 1, 0, 1])

    def test_all_is_as_it_was(self):
        for order, refusal in (((3,), -1), ((LARGEST,) * 6, -1), ((0, 0), -4), ((1, 0), -6)):
            line = [*LEMON_ROSE_CEDAR, fewest(*order)]
            self.assertEqual(last(*line), [refusal])
            self.assertEqual(last(*line, fewest(0, 1, 2)), [3, 3, 1, 1, 1, 1])
            self.assertEqual(last(*line, course(5, 5, 5))[0], 24)
            self.assertEqual(last(*line, material(1, 1, 1)), [3])

    def test_all_is_as_it_was_after_an_answer(self):
        line = [*LEMON_ROSE_CEDAR, fewest(0, 1, 2)]
        self.assertEqual(last(*line, fewest(0, 1, 2)), [3, 3, 1, 1, 1, 1])
        self.assertEqual(last(*line, course(1, 1, 1)), [24, 0, 3, 1, 11, 2, 10])
        self.assertEqual(last(*line, material(1, 1, 1)), [3])


class AsFew(unittest.TestCase):
    """Materials that fade as told never have two formulas of as few drops, so here they lead in a made-up way."""

    def last(self, turns, *line):
        with mock.patch("smelledwhen.shelf.turns", turns):
            return last(*line)

    def test_the_earliest_is_not_the_most_even(self):
        def turns(materials, formula):
            return [0, 7 + formula[0], 1, 7 + formula[0]] if sum(formula) >= 3 else []
        line = shelf((10, 4, 2), (10, 4, 3))
        # These are 0 3, 1 2 and 2 1.
        self.assertEqual(self.last(turns, *line, fewest(0, 1)), [3, 7, 3, 0, 3])

    def test_the_earliest_is_the_most_even(self):
        def turns(materials, formula):
            return [1, 9 - formula[0]] if sum(formula) >= 4 else []
        line = shelf((10, 4, 2), (10, 4, 3), (10, 4, 1))
        # These are 0 3 1, 1 2 1, 1 3 0, 2 1 1 and 2 2 0.
        self.assertEqual(self.last(turns, *line, fewest(1)), [4, 9, 5, 0, 3, 1])

    def test_only_those_of_this_order_count(self):
        def turns(materials, formula):
            return [formula[0] % 2, 4] if formula[1] else []
        line = shelf((10, 4, 5), (10, 4, 5))
        self.assertEqual(self.last(turns, *line, fewest(1)), [2, 4, 1, 1, 1])
        self.assertEqual(self.last(turns, *line, fewest(0)), [1, 4, 1, 0, 1])
        self.assertEqual(self.last(turns, *line, fewest()), [0, 0, 1, 0, 0])
