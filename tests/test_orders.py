import unittest
from itertools import permutations

from tests.lines import FOUR_IN_TURN, LEMON_ROSE_CEDAR, ask, begins, course, fewest, last, material, orders, shelf


def told(*wanted):
    """The answer that tells these orders."""
    return [len(wanted)] + [number for order in wanted for number in (len(order), *order)]


def read(answer):
    """The orders that an answer tells."""
    found = []
    place = 1
    while place < len(answer):
        end = place + 1 + answer[place]
        found.append(tuple(answer[place + 1:end]))
        place = end
    return found


class Orders(unittest.TestCase):
    def test_with_no_material(self):
        self.assertEqual(ask(orders()), [[1, 0]])
        self.assertEqual(ask(begins(20), orders()), [[0], [1, 0]])

    def test_with_one(self):
        self.assertEqual(last(material(1, 1, 1), orders()), [2, 0, 1, 0])
        self.assertEqual(last(*shelf((100, 24, 5)), orders()), [2, 0, 1, 0])

    def test_with_two(self):
        self.assertEqual(last(*shelf((90, 4, 5), (30, 16, 5)), orders()), [4, 0, 1, 0, 2, 0, 1, 1, 1])
        self.assertEqual(last(*shelf((30, 16, 5), (90, 4, 5)), orders()), [4, 0, 1, 0, 1, 1, 2, 1, 0])

    def test_with_three(self):
        wanted = told((), (0,), (0, 1), (0, 1, 2), (0, 2), (1,), (1, 2), (2,))
        self.assertEqual(last(*LEMON_ROSE_CEDAR, orders()), wanted)
        line = shelf((10, 24, 5), (30, 16, 5), (90, 4, 5))
        self.assertEqual(last(*line, orders()), told((), (0,), (1,), (1, 0), (2,), (2, 0), (2, 1), (2, 1, 0)))

    def test_with_four(self):
        wanted = told(
            (), (0,), (1,), (1, 0), (1, 2), (1, 2, 0), (1, 3), (1, 3, 0), (1, 3, 2), (1, 3, 2, 0), (2,), (2, 0),
            (3,), (3, 0), (3, 2), (3, 2, 0))
        self.assertEqual(last(*FOUR_IN_TURN, orders()), wanted)

    def test_as_long_lasting_ones_never_lead_one_after_another(self):
        self.assertEqual(last(*shelf((10, 4, 5), (10, 4, 5)), orders()), told((), (0,), (1,)))
        self.assertEqual(last(*shelf(*[(50, 24, 5)] * 4), orders()), told((), (0,), (1,), (2,), (3,)))

    def test_one_too_faint_to_lead_ahead_of_another(self):
        self.assertEqual(last(*shelf((1, 2, 5), (100, 4, 5)), orders()), told((), (0,), (1,)))
        self.assertEqual(last(*shelf((20, 2, 5), (100, 4, 5)), orders()), told((), (0,), (0, 1), (1,)))
        self.assertEqual(last(*shelf((20, 2, 5), (100, 4, 5), drops=5), orders()), told((), (0,), (1,)))

    def test_one_that_leads_only_where_another_is_not_in_it(self):
        # 90 - 15t, 60 - 7 1/2 t and 50 - 25t/12: with a drop of each the second never leads.
        line = shelf((90, 6, 1), (60, 8, 1), (50, 24, 1))
        self.assertEqual(last(*line, course(1, 1, 1)), [24, 0, 4, 2, 20])
        self.assertEqual(last(*line, orders()), told((), (0,), (0, 1), (0, 2), (1,), (1, 2), (2,)))

    def test_with_1_drop_all_together(self):
        wanted = told((), (0,), (1,), (2,))
        self.assertEqual(last(*shelf((90, 4, 5), (30, 16, 5), (10, 24, 5), drops=1), orders()), wanted)
        self.assertEqual(last(material(90, 4, 5), material(30, 16, 5), material(10, 24, 5), orders()), wanted)

    def test_with_2_drops_all_together(self):
        line = shelf((90, 4, 5), (30, 16, 5), (10, 24, 5), drops=2)
        self.assertEqual(last(*line, orders()), told((), (0,), (0, 1), (0, 2), (1,), (1, 2), (2,)))

    def test_one_of_which_there_may_be_none(self):
        self.assertEqual(last(material(10, 4, 0), orders()), [1, 0])
        self.assertEqual(last(*shelf((90, 4, 5), (30, 16, 0), (10, 24, 5)), orders()), told((), (0,), (0, 2), (2,)))
        self.assertEqual(last(*shelf((90, 4, 0), (30, 16, 5), (10, 24, 5)), orders()), told((), (1,), (1, 2), (2,)))
        self.assertEqual(last(*shelf(*[(10, 4, 0)] * 4), orders()), [1, 0])

    def test_all_is_as_it_was(self):
        line = [*LEMON_ROSE_CEDAR, orders()]
        self.assertEqual(last(*line, orders()), last(*LEMON_ROSE_CEDAR, orders()))
        self.assertEqual(last(*line, course(1, 1, 1)), [24, 0, 3, 1, 11, 2, 10])
        self.assertEqual(last(*line, course(5, 5, 5))[0], 24)
        self.assertEqual(last(*line, material(1, 1, 1)), [3])


class HowTheyStand(unittest.TestCase):
    def setUp(self):
        materials = ((8, 24, 5), (100, 2, 5), (16, 12, 5), (30, 6, 5))
        self.shelves = [shelf(*some) for count in range(5) for some in permutations(materials, count)]

    def test_the_empty_one_first_and_each_once(self):
        for line in self.shelves:
            found = read(last(*line, orders()))
            self.assertEqual(found[0], ())
            self.assertEqual(len(found), len(set(found)))
            self.assertEqual(len(found), last(*line, orders())[0])

    def test_a_beginning_ahead_else_the_lower_number(self):
        for line in self.shelves:
            found = read(last(*line, orders()))
            for one, other in zip(found, found[1:]):
                differ = [pair for pair in zip(one, other) if pair[0] != pair[1]]
                if differ:
                    self.assertLess(differ[0][0], differ[0][1])
                else:
                    self.assertLess(len(one), len(other))

    def test_just_those_that_fewest_does_not_refuse(self):
        line = shelf((90, 6, 1), (60, 8, 1), (50, 24, 1))
        found = read(last(*line, orders()))
        for count in range(4):
            for order in permutations(range(3), count):
                refused = last(*line, fewest(*order)) == [-6]
                self.assertEqual(order not in found, refused)
