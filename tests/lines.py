"""Writes the lists that are handed in, and takes apart those that are given back."""

from smelledwhen.shelf import answers

LARGEST = 4294967295


def begins(drops):
    return [0, drops]


def material(strong, lasts, drops):
    return [1, strong, lasts, drops]


def course(*formula):
    return [2, len(formula), *formula]


def fewest(*order):
    return [3, len(order), *order]


def even(*order):
    return [4, len(order), *order]


def orders():
    return [5]


def shelf(*materials, drops=20):
    return [begins(drops)] + [material(*numbers) for numbers in materials]


LEMON_ROSE_CEDAR = shelf((90, 4, 5), (30, 16, 5), (10, 24, 5))
# With one drop of each: 100 - 50t, 30 - 5t, 16 - 4t/3 and 8 - t/3 lead one after another.
FOUR_IN_TURN = shelf((8, 24, 1), (100, 2, 1), (16, 12, 1), (30, 6, 1))


def joined(calls):
    return [number for call in calls for number in call]


def split(given):
    """What is answered call by call; the counts must fill the list exactly."""
    rows = []
    place = 0
    while place < len(given):
        count = given[place]
        row = given[place + 1:place + 1 + count]
        if count < 1 or len(row) != count:
            raise AssertionError(f"the counts don't fit: {given}")
        rows.append(row)
        place += 1 + count
    return rows


def ask(*calls):
    return split(answers(joined(calls)))


def last(*calls):
    return ask(*calls)[-1]
