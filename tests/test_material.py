import unittest

from tests.lines import LARGEST, ask, begins, course, last, material

FOUR = [material(11, 1, 1), material(12, 2, 2), material(13, 3, 3), material(14, 4, 4)]
NOT_AS_TOLD = [
    (0, 5, 5), (101, 5, 5), (LARGEST, 5, 5),
    (5, 0, 5), (5, 25, 5), (5, LARGEST, 5),
    (5, 5, 6), (5, 5, 7), (5, 5, LARGEST),
    (0, 0, 6), (LARGEST, LARGEST, LARGEST),
]


class Material(unittest.TestCase):
    def test_numbers_in_turn(self):
        self.assertEqual(ask(*FOUR), [[0], [1], [2], [3]])
        self.assertEqual(ask(begins(20), *FOUR), [[0], [0], [1], [2], [3]])

    def test_the_same_one_again_is_a_further_one(self):
        self.assertEqual(ask(material(5, 5, 5), material(5, 5, 5)), [[0], [1]])

    def test_how_strong_at_both_ends(self):
        self.assertEqual(ask(material(1, 5, 5), material(100, 5, 5)), [[0], [1]])
        self.assertEqual(ask(material(0, 5, 5), material(101, 5, 5)), [[-1], [-1]])

    def test_how_long_it_lasts_at_both_ends(self):
        self.assertEqual(ask(material(5, 1, 5), material(5, 24, 5)), [[0], [1]])
        self.assertEqual(ask(material(5, 0, 5), material(5, 25, 5)), [[-1], [-1]])

    def test_how_many_drops_at_both_ends(self):
        self.assertEqual(ask(material(5, 5, 0), material(5, 5, 5)), [[0], [1]])
        self.assertEqual(ask(material(5, 5, 6), material(5, 5, LARGEST)), [[-1], [-1]])

    def test_a_number_not_as_told(self):
        for numbers in NOT_AS_TOLD:
            self.assertEqual(ask(material(*numbers)), [[-1]])

    def test_a_fifth(self):
        self.assertEqual(last(*FOUR, material(5, 5, 5)), [-5])
        self.assertEqual(ask(*FOUR, material(1, 1, 0), material(100, 24, 5))[4:], [[-5], [-5]])

    def test_a_fifth_not_as_told(self):
        for numbers in NOT_AS_TOLD:
            self.assertEqual(last(*FOUR, material(*numbers)), [-1])

    def test_a_refused_one_takes_no_number(self):
        for numbers in NOT_AS_TOLD:
            line = [material(5, 5, 5), material(*numbers)]
            self.assertEqual(last(*line, material(5, 5, 5)), [1])
            self.assertEqual(last(*line, course(1)), [5, 0, 5])
            self.assertEqual(last(*line, course(1, 0)), [-1])
            self.assertEqual(last(*line, course(2)), [-4])

    def test_a_refused_fifth_leaves_the_four(self):
        for fifth in (material(100, 24, 5), material(0, 24, 5)):
            line = [begins(10), *FOUR, fifth]
            self.assertEqual(last(*line, course(1, 2, 3, 4)), [4, 3, 4])
            self.assertEqual(last(*line, course(1, 2, 3, 4, 0)), [-1])
            self.assertEqual(last(*line, course(1, 2, 4, 3)), [-4])
            self.assertEqual(last(*line, course(0, 0, 0, 1)), [4, 3, 4])

    def test_after_beginning_anew_the_numbers_begin_at_0(self):
        self.assertEqual(last(*FOUR, begins(1), material(5, 5, 5)), [0])
