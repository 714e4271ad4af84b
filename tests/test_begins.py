import unittest

from tests.lines import LARGEST, ask, begins, course, last, material


class Begins(unittest.TestCase):
    def test_as_many_drops_as_told(self):
        for drops in range(1, 21):
            self.assertEqual(ask(begins(drops)), [[0]])

    def test_too_few_or_too_many_drops(self):
        for drops in (0, 21, 22, 100, LARGEST):
            self.assertEqual(ask(begins(drops)), [[-1]])

    def test_afterwards_there_are_no_materials(self):
        line = [begins(5), material(10, 4, 5), material(20, 2, 5), begins(5)]
        self.assertEqual(last(*line, course()), [0])
        self.assertEqual(last(*line, course(1, 1)), [-1])
        self.assertEqual(last(*line, material(3, 3, 3)), [0])

    def test_without_materials_too(self):
        self.assertEqual(ask(begins(1), begins(20), begins(20)), [[0], [0], [0]])

    def test_afterwards_there_may_be_as_many_drops(self):
        line = [material(10, 4, 5) for _ in range(4)]
        full = {1: (1, 0, 0, 0), 5: (5, 0, 0, 0), 7: (0, 5, 0, 2), 19: (5, 5, 5, 4), 20: (5, 5, 5, 5)}
        for drops, formula in full.items():
            self.assertEqual(last(begins(drops), *line, course(*formula))[0], 4)
            if drops > 1:
                self.assertEqual(last(begins(drops - 1), *line, course(*formula)), [-4])

    def test_a_later_one_may_allow_fewer_drops(self):
        line = [begins(3), material(10, 4, 5), begins(2), material(10, 4, 5)]
        self.assertEqual(last(*line, course(3)), [-4])
        self.assertEqual(last(*line, course(2)), [4, 0, 4])

    def test_a_refused_one_leaves_materials_and_drops(self):
        for drops in (0, 21, LARGEST):
            line = [begins(3), material(10, 4, 5), material(20, 2, 5), begins(drops)]
            self.assertEqual(last(*line), [-1])
            self.assertEqual(last(*line, course(3, 0)), [4, 0, 4])
            self.assertEqual(last(*line, course(2, 2)), [-4])
            self.assertEqual(last(*line, course()), [-1])
            self.assertEqual(last(*line, material(1, 1, 1)), [2])

    def test_a_refused_one_leaves_a_shelf_never_begun(self):
        line = [begins(0), begins(21), material(10, 4, 5)]
        self.assertEqual(last(*line, course(1)), [4, 0, 4])
        self.assertEqual(last(*line, course(2)), [-4])
