import random
import unittest

from tests import reference
from tests.lines import FOUR_IN_TURN, LARGEST, LEMON_ROSE_CEDAR, ask, begins, course, last, material, shelf


class WithNothing(unittest.TestCase):
    def test_no_material_and_an_empty_formula(self):
        self.assertEqual(ask(course()), [[0]])
        self.assertEqual(ask(begins(20), course()), [[0], [0]])

    def test_no_drop_of_any(self):
        self.assertEqual(last(material(50, 24, 5), course(0)), [0])
        self.assertEqual(last(*LEMON_ROSE_CEDAR, course(0, 0, 0)), [0])

    def test_none_may_be_and_none_is(self):
        self.assertEqual(last(material(50, 24, 0), course(0)), [0])


class WhoLeads(unittest.TestCase):
    def test_one_alone(self):
        for lasts in range(1, 25):
            for strong in (1, 7, 100):
                self.assertEqual(last(material(strong, lasts, 1), course(1)), [lasts, 0, lasts])

    def test_one_alone_among_others_that_are_not_in_it(self):
        self.assertEqual(last(*LEMON_ROSE_CEDAR, course(1, 0, 0)), [4, 0, 4])
        self.assertEqual(last(*LEMON_ROSE_CEDAR, course(0, 2, 0)), [16, 1, 16])
        self.assertEqual(last(*LEMON_ROSE_CEDAR, course(0, 0, 1)), [24, 2, 24])

    def test_one_after_another(self):
        # At 2 lemon has 45 and rose 26 1/4, at 3 they have 22 1/2 and 24 3/8;
        # at 13 rose has 5 5/8 and cedar 4 7/12, at 14 they have 3 3/4 and 4 1/6.
        self.assertEqual(last(*LEMON_ROSE_CEDAR, course(1, 1, 1)), [24, 0, 3, 1, 11, 2, 10])

    def test_the_numbers_need_not_rise(self):
        line = shelf((10, 24, 5), (30, 16, 5), (90, 4, 5))
        self.assertEqual(last(*line, course(1, 1, 1)), [24, 2, 3, 1, 11, 0, 10])

    def test_four_one_after_another(self):
        self.assertEqual(last(*FOUR_IN_TURN, course(1, 1, 1, 1)), [24, 1, 2, 3, 2, 2, 4, 0, 16])

    def test_all_drops_count(self):
        line = shelf((10, 2, 5), (12, 4, 5))
        self.assertEqual(last(*line, course(1, 1)), [4, 1, 4])
        self.assertEqual(last(*line, course(2, 1)), [4, 0, 2, 1, 2])
        self.assertEqual(last(*line, course(2, 2)), [4, 1, 4])

    def test_over_is_when_the_last_one_is_gone(self):
        self.assertEqual(last(*shelf((100, 2, 1), (1, 9, 1)), course(1, 1)), [9, 0, 2, 1, 7])

    def test_one_that_never_leads_is_not_told(self):
        self.assertEqual(last(*shelf((100, 9, 1), (1, 2, 1)), course(1, 1)), [9, 0, 9])

    def test_gone_at_the_time_it_lasts(self):
        self.assertEqual(last(*shelf((100, 1, 1), (1, 2, 1)), course(1, 1)), [2, 0, 1, 1, 1])


class AsStrong(unittest.TestCase):
    def test_at_all_times(self):
        self.assertEqual(last(*shelf((10, 4, 1), (10, 4, 1)), course(1, 1)), [4, 0, 4])
        self.assertEqual(last(*shelf((1, 9, 1), (10, 4, 1), (10, 4, 1)), course(0, 1, 1)), [4, 1, 4])
        self.assertEqual(last(*shelf((10, 4, 5), (20, 4, 5)), course(4, 2)), [4, 0, 4])

    def test_at_the_beginning(self):
        self.assertEqual(last(*shelf((10, 2, 1), (10, 4, 1)), course(1, 1)), [4, 0, 1, 1, 3])
        self.assertEqual(last(*shelf((10, 4, 1), (10, 2, 1)), course(1, 1)), [4, 0, 4])

    def test_in_the_midst(self):
        # 6 - t and 12 - 4t are both 4 at 2.
        self.assertEqual(last(*shelf((6, 6, 1), (12, 3, 1)), course(1, 1)), [6, 1, 2, 0, 4])
        self.assertEqual(last(*shelf((12, 3, 1), (6, 6, 1)), course(1, 1)), [6, 0, 3, 1, 3])

    def test_three_at_one_time_and_the_lowest_leads_then_alone(self):
        # 8 - 2t, 12 - 4t and 6 - t are all 4 at 2.
        self.assertEqual(last(*shelf((8, 4, 1), (12, 3, 1), (6, 6, 1)), course(1, 1, 1)), [6, 1, 2, 0, 1, 2, 3])
        self.assertEqual(last(*shelf((12, 3, 1), (8, 4, 1), (6, 6, 1)), course(1, 1, 1)), [6, 0, 3, 2, 3])


class ComparedExactly(unittest.TestCase):
    def test_less_than_one(self):
        # At 1 they have 22/23 and 23/24: 1/552 apart.
        self.assertEqual(last(*shelf((1, 23, 1), (1, 24, 1)), course(1, 1)), [24, 0, 1, 1, 23])
        self.assertEqual(last(*shelf((1, 24, 1), (1, 23, 1)), course(1, 1)), [24, 0, 24])

    def test_close_to_one_another(self):
        # At 7 they have 896/23 and 935/24: 1/552 apart.
        self.assertEqual(last(*shelf((56, 23, 5), (55, 24, 5)), course(1, 1)), [24, 0, 7, 1, 17])
        self.assertEqual(last(*shelf((14, 23, 5), (11, 24, 5)), course(4, 5)), [24, 0, 7, 1, 17])

    def test_the_same_over_different_numbers(self):
        # 9 - 3t/7 and 12 - 6t/7 are both 6 at 7; 9 - 3t/7 lasts 21, 12 - 6t/7 lasts 14.
        self.assertEqual(last(*shelf((9, 21, 1), (12, 14, 1)), course(1, 1)), [21, 1, 7, 0, 14])
        self.assertEqual(last(*shelf((12, 14, 1), (9, 21, 1)), course(1, 1)), [21, 0, 8, 1, 13])


class NotANumberForEach(unittest.TestCase):
    def test_fewer_or_more_numbers(self):
        for count in range(5):
            line = shelf(*[(10, 4, 5)] * count)
            for length in range(7):
                wanted = ([4, 0, 4] if count else [0]) if length == count else [-1]
                self.assertEqual(last(*line, course(*[1] * length)), wanted)

    def test_told_ahead_of_what_may_not_be(self):
        line = shelf((10, 4, 5), (10, 4, 5), drops=3)
        for formula in ((6,), (LARGEST,), (2, 2, 2), (0, 0, LARGEST), (LARGEST,) * 6):
            self.assertEqual(last(*line, course(*formula)), [-1])


class MayNotBe(unittest.TestCase):
    def test_more_of_one(self):
        for most in range(6):
            line = shelf((10, 4, 5), (10, 4, most), (10, 4, 5))
            self.assertEqual(last(*line, course(5, most, 0)), [4, 0, 4])
            for drops in (most + 1, most + 2, LARGEST):
                self.assertEqual(last(*line, course(5, drops, 0)), [-4])

    def test_more_of_the_first_or_last(self):
        line = shelf((10, 4, 1), (10, 4, 5), (10, 4, 2))
        self.assertEqual(last(*line, course(1, 5, 2)), [4, 1, 4])
        self.assertEqual(last(*line, course(2, 0, 0)), [-4])
        self.assertEqual(last(*line, course(0, 0, 3)), [-4])

    def test_more_all_together(self):
        for drops in range(1, 21):
            line = shelf(*[(10, 4, 5)] * 4, drops=drops)
            formula = [min(5, max(0, drops - 5 * number)) for number in range(4)]
            self.assertEqual(last(*line, course(*formula))[0], 4)
            if drops < 20:
                formula[drops // 5] += 1
                self.assertEqual(last(*line, course(*formula)), [-4])

    def test_one_and_all_together_just_at_the_most(self):
        line = shelf((10, 4, 2), (50, 8, 3), drops=5)
        self.assertEqual(last(*line, course(2, 3)), [8, 1, 8])
        self.assertEqual(last(*line, course(3, 2)), [-4])
        self.assertEqual(last(*line, course(2, 4)), [-4])

    def test_largest_numbers(self):
        line = shelf((10, 4, 5), (10, 4, 5))
        for formula in ((LARGEST, 0), (0, LARGEST), (LARGEST, 1), (LARGEST, LARGEST)):
            self.assertEqual(last(*line, course(*formula)), [-4])

    def test_never_begun(self):
        line = [material(10, 4, 5), material(20, 4, 5)]
        self.assertEqual(last(*line, course(1, 0)), [4, 0, 4])
        self.assertEqual(last(*line, course(0, 1)), [4, 1, 4])
        self.assertEqual(last(*line, course(1, 1)), [-4])
        self.assertEqual(last(*line, course(2, 0)), [-4])

    def test_begun_twice(self):
        line = [begins(9), material(10, 4, 5), begins(2), material(20, 6, 5), material(90, 3, 5)]
        self.assertEqual(last(*line, course(1, 1)), [6, 1, 3, 0, 3])
        self.assertEqual(last(*line, course(2, 1)), [-4])
        self.assertEqual(last(*line, course(1)), [-1])

    def test_a_course_changes_nothing(self):
        for asked in (course(1, 1, 1), course(6, 0, 0), course(1)):
            line = [*LEMON_ROSE_CEDAR, asked]
            self.assertEqual(last(*line, course(1, 1, 1)), [24, 0, 3, 1, 11, 2, 10])
            self.assertEqual(last(*line, material(1, 1, 1)), [3])


class ComparedWithTheWords(unittest.TestCase):
    def check(self, calls):
        written = {"begins": begins, "material": material, "course": lambda formula: course(*formula)}
        given = ask(*[written[name](*numbers) for name, *numbers in calls])
        self.assertEqual(given, reference.answers(calls), calls)
        for (name, *numbers), row in zip(calls, given):
            if name == "course" and len(row) > 1:
                self.check_form(row)

    def check_form(self, row):
        self.assertEqual(len(row) % 2, 1)
        self.assertEqual(row[0], sum(row[2::2]))
        self.assertEqual(len(row[1::2]), len(set(row[1::2])), "nobody leads twice")

    def test_every_pair_that_lasts_differently(self):
        for first in range(1, 25):
            for second in range(1, 25):
                calls = [("begins", 20), ("material", 8, first, 5), ("material", 9, second, 5)]
                formulas = [[a, b] for a in range(6) for b in range(6)]
                self.check(calls + [("course", formula) for formula in formulas])

    def test_many_shelves(self):
        source = random.Random(1)
        for _ in range(3000):
            count = source.randint(0, 4)
            strongest = source.choice((3, 12, 100))
            calls = [("begins", source.randint(1, 20))]
            for _ in range(count):
                calls.append(("material", source.randint(1, strongest), source.randint(1, 24), source.randint(0, 5)))
            for _ in range(8):
                calls.append(("course", [source.randint(0, 3) for _ in range(count)]))
            self.check(calls)

    def test_many_lines_with_refusals(self):
        source = random.Random(2)
        odd = (0, 1, 2, 5, 6, 20, 21, 24, 25, 100, 101, LARGEST)
        for _ in range(1000):
            calls = []
            for _ in range(source.randint(1, 60)):
                name = source.choice(("begins", "material", "material", "material", "course", "course", "course"))
                if name == "course":
                    length = source.randint(0, 6)
                    calls.append((name, [source.choice((0, 0, 1, 1, 2, 5, 6, LARGEST)) for _ in range(length)]))
                elif name == "material":
                    wild = source.random() < 0.3
                    numbers = [source.choice(odd) if wild else source.randint(1, 5) for _ in range(3)]
                    calls.append((name, *numbers))
                else:
                    calls.append((name, source.choice(odd)))
            self.check(calls)
