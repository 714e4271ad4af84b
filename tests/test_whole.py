import collections
import random
import time
import unittest

from tests import lines, reference
from tests.lines import LARGEST, ask, begins, course, even, fewest, last, material, orders, shelf

WIDE = ("fewest", "even", "orders")
MOST_WIDE = 4


def written(call):
    name, *numbers = call
    if name in ("course", "fewest", "even"):
        numbers = numbers[0]
    return getattr(lines, name)(*numbers)


class Drawn:
    """Draws a line, with an eye on the shelf, so that not nearly all is refused."""

    def __init__(self, source):
        self.source = source
        self.materials = []
        self.calls = []
        self.wide = 0

    def line(self, most_calls):
        self.strongest = self.source.choice((3, 12, 100))
        self.longest = self.source.choice((4, 9, 24, 24))
        # Orders of several materials are answered only where these, and drops enough, came ahead of the question.
        self.asked_from = self.source.choice((0, 1, 2, 3, 4, 4))
        self.in_turn = self.source.random() < 0.5
        for place in range(self.source.randint(1, most_calls)):
            first = place == 0 and self.source.random() < 0.8
            name = "begins" if first else self.source.choice(self.names())
            self.wide += name in WIDE
            self.calls.append((name, *getattr(self, name)()))
        return self.calls

    def names(self):
        names = ["begins"] + ["material"] * 8 + ["course"] * 4
        if self.wide < MOST_WIDE and len(self.materials) >= self.asked_from:
            names += list(WIDE) * 3
        return names

    def odd(self):
        return self.source.choice((0, 1, 4, 5, 6, 20, 21, 24, 25, 100, 101, LARGEST))

    def begins(self):
        drops = self.odd() if self.source.random() < 0.2 else self.source.randint(1, 20)
        if 1 <= drops <= 20:
            self.materials = []
        return (drops,)

    def material(self):
        if self.source.random() < 0.1:
            numbers = (self.odd(), self.odd(), self.odd())
        else:
            most = self.source.choice((0, 1, 1, 2, 2, 3, 5))
            lasts = self.source.randint(1, self.longest)
            numbers = (self.strong(lasts), lasts, most)
        strong, lasts, most = numbers
        if 1 <= strong <= 100 and 1 <= lasts <= 24 and most <= 5 and len(self.materials) < 4:
            self.materials.append(numbers)
        return numbers

    def strong(self, lasts):
        # The longer one lasts, the fainter it is: such ones lead one after another.
        if self.in_turn:
            return min(100, self.source.randint(150, 250) // lasts)
        return self.source.randint(1, self.strongest)

    def course(self):
        length = self.source.randint(0, 6) if self.source.random() < 0.1 else len(self.materials)
        return ([self.source.choice((0, 0, 1, 1, 2, 5, 6, LARGEST)) for _ in range(length)],)

    def fewest(self):
        if self.source.random() < 0.2:
            return ([self.source.choice((0, 1, 2, 3, 4, LARGEST)) for _ in range(self.source.randint(0, 6))],)
        share = self.source.choice((0.5, 0.8, 1))
        order = [number for number in range(len(self.materials)) if self.source.random() < share]
        if self.source.random() < 0.8:
            order.sort(key=lambda number: self.materials[number][1])
        if self.source.random() < 0.1 and order:
            order.append(self.source.choice(order))
        return (order,)

    even = fewest

    def orders(self):
        return ()


class ComparedWithTheWords(unittest.TestCase):
    def check(self, calls, seen=None):
        given = ask(*[written(call) for call in calls])
        self.assertEqual(given, reference.answers(calls), calls)
        for (name, *numbers), row in zip(calls, given):
            if seen is not None:
                what = row[0] if row[0] < 0 else len(numbers[0]) if name in ("fewest", "even") else "answered"
                seen[name, what] += 1

    def test_many_lines_with_all_six_calls(self):
        source = random.Random(11)
        seen = collections.Counter()
        for _ in range(1500):
            self.check(Drawn(source).line(60), seen)
        # All that may come of a call has come, and not just once.
        wanted = [("begins", -1), ("begins", "answered"), ("material", -1), ("material", -5), ("material", "answered")]
        wanted += [("course", -1), ("course", -4), ("course", "answered"), ("orders", "answered")]
        wanted += [(name, what) for name in ("fewest", "even") for what in (-6, -4, -1, 0, 1, 2, 3, 4)]
        self.assertEqual(sorted(seen, key=str), sorted(wanted, key=str))
        self.assertGreater(min(seen.values()), 5)

    def test_many_short_lines(self):
        source = random.Random(12)
        for _ in range(2000):
            self.check(Drawn(source).line(6))

    def test_every_order_on_some_full_shelves(self):
        source = random.Random(13)
        for _ in range(25):
            materials = [(source.randint(1, 100), source.randint(1, 24), 5) for _ in range(4)]
            ahead = [("begins", source.choice((20, source.randint(4, 19))))]
            ahead += [("material", *numbers) for numbers in materials]
            in_turn = sorted(range(4), key=lambda number: materials[number][1])
            for left_out in (None, 0, 1, 2, 3):
                order = [number for number in in_turn if number != left_out]
                self.check(ahead + [("fewest", order), ("even", order), ("orders",)])

    def test_every_pair_that_lasts_differently(self):
        for first in range(1, 25):
            for second in range(1, 25):
                ahead = [("begins", 20), ("material", 8, first, 3), ("material", 9, second, 3)]
                self.check(ahead + [("fewest", [0, 1]), ("even", [0, 1]), ("even", [1, 0]), ("orders",)])


class NoneIsAsGood(unittest.TestCase):
    """Why no line shows two formulas that are as good.

    Of two formulas of one order take for each material the fewer drops (and none of what never leads): each leads
    then at all times at which it led in that formula from which its drops are, so the order is the same and it is
    as even; and there are fewer drops, but where the two are one.
    """

    def test_over_many_shelves(self):
        source = random.Random(14)
        for _ in range(150):
            lasting = source.choice((5, 24))
            materials = tuple(
                (source.randint(1, source.choice((4, 100))), source.randint(1, lasting), source.randint(1, 4))
                for _ in range(source.randint(1, 4)))
            for found in reference.formulas_by_order(source.randint(1, 20), materials).values():
                self.assertEqual(reference.fewest(found)[2], 1)
                self.assertEqual(reference.even(found)[2], 1)


class OneShelf(unittest.TestCase):
    def test_beginning_anew_in_the_midst(self):
        line = [*shelf((90, 4, 5), (30, 16, 5), (10, 24, 5)), begins(20)]
        self.assertEqual(last(*line, fewest(0)), [-1])
        self.assertEqual(last(*line, even(0)), [-1])
        self.assertEqual(last(*line, fewest()), [0, 0, 1])
        self.assertEqual(last(*line, even()), [0, 0, 1])
        self.assertEqual(last(*line, orders()), [1, 0])
        line += [material(12, 4, 5), material(10, 2, 5)]
        self.assertEqual(last(*line, fewest(2)), [-1])
        self.assertEqual(last(*line, fewest(0, 1)), [-6])
        self.assertEqual(last(*line, fewest(1, 0)), [3, 2, 1, 1, 2])
        self.assertEqual(last(*line, even(1, 0)), [2, 3, 1, 1, 2])
        self.assertEqual(last(*line, orders()), [4, 0, 1, 0, 1, 1, 2, 1, 0])

    def test_beginning_anew_with_fewer_drops(self):
        line = [*shelf((10, 2, 5), (12, 4, 5)), fewest(0, 1), begins(2), material(10, 2, 5), material(12, 4, 5)]
        self.assertEqual(ask(*line, fewest(0, 1), orders())[3:], [
            [3, 2, 1, 2, 1], [0], [0], [1], [-6], [3, 0, 1, 0, 1, 1]])

    def test_a_beginning_that_is_refused(self):
        for drops in (0, 21, LARGEST):
            line = [*shelf((10, 2, 5), (12, 4, 5), drops=3), begins(drops)]
            self.assertEqual(last(*line, fewest(0, 1)), [3, 2, 1, 2, 1])
            self.assertEqual(last(*line, orders()), [4, 0, 1, 0, 2, 0, 1, 1, 1])

    def test_a_material_that_is_refused(self):
        line = [*shelf((10, 2, 5), (12, 4, 5)), material(0, 5, 5)]
        self.assertEqual(last(*line, fewest(2)), [-1])
        self.assertEqual(last(*line, even(0, 1)), [2, 3, 1, 2, 1])
        full = [*shelf(*[(10, 4, 1)] * 4), material(10, 24, 5)]
        self.assertEqual(last(*full, fewest(4)), [-1])
        self.assertEqual(last(*full, orders()), [5, 0, 1, 0, 1, 1, 1, 2, 1, 3])

    def test_a_further_material_in_the_midst(self):
        line = [begins(20), material(90, 4, 5), orders(), even(0, 1), material(30, 16, 5), orders(), even(0, 1)]
        self.assertEqual(ask(*line)[2:], [
            [2, 0, 1, 0], [-1], [1], [4, 0, 1, 0, 2, 0, 1, 1, 1], [4, 3, 1, 2, 1]])

    def test_refusals_in_the_midst(self):
        line = [begins(3), fewest(0), material(10, 2, 5), even(0, 0), material(12, 4, 5), course(2, 2), fewest(1, 0)]
        line += [begins(21), course(2, 1), even(0, 1)]
        self.assertEqual(ask(*line), [
            [0], [-1], [0], [-4], [1], [-4], [-6], [-1], [4, 0, 2, 1, 2], [2, 3, 1, 2, 1]])


class TheLargest(unittest.TestCase):
    def test_ends_within_a_few_seconds(self):
        line = shelf((100, 3, 5), (60, 8, 5), (40, 15, 5), (20, 24, 5))
        line += [course(5, 5, 5, 5)] * 51 + [fewest(0, 1, 2, 3), even(0, 1, 2, 3), orders(), even(3, 2, 1, 0)]
        self.assertEqual(len(line), 60)
        begun = time.monotonic()
        rows = ask(*line)
        self.assertLess(time.monotonic() - begun, 5)
        self.assertEqual(rows[56:58], [[4, 2, 1, 1, 1, 1, 1], [3, 7, 1, 3, 2, 1, 1]])
        self.assertEqual((rows[58][0], len(rows[58]), rows[59]), (16, 49, [-6]))

    def test_ends_so_where_all_last_the_longest(self):
        line = shelf(*[(100, 24, 5)] * 4)
        begun = time.monotonic()
        rows = ask(*line, fewest(3), even(2), orders(), orders())
        self.assertLess(time.monotonic() - begun, 5)
        self.assertEqual(rows[5:7], [[1, 24, 1, 0, 0, 0, 1], [24, 1, 1, 0, 0, 1, 0]])
        self.assertEqual(rows[7:], [[5, 0, 1, 0, 1, 1, 1, 2, 1, 3]] * 2)
