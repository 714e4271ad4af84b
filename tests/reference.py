"""The words of the document told a second time, with fractions, to compare the program with."""

from fractions import Fraction
from functools import lru_cache
from itertools import groupby, product


def strength(material, drops, when):
    strong, lasts, most = material
    if when >= lasts:
        return Fraction(0)
    return Fraction(strong * drops * (lasts - when), lasts)


def leads(materials, formula, when):
    """The number of the one that leads, or None."""
    strengths = [strength(material, drops, when) for material, drops in zip(materials, formula)]
    if not any(strengths):
        return None
    return strengths.index(max(strengths))


def course(materials, formula):
    leaders = []
    while (number := leads(materials, formula, len(leaders))) is not None:
        leaders.append(number)
    answer = [len(leaders)]
    for number, run in groupby(leaders):
        answer += [number, len(list(run))]
    return answer


def may_be(most_drops, materials, formula):
    return sum(formula) <= most_drops and all(drops <= most for drops, (s, l, most) in zip(formula, materials))


@lru_cache(maxsize=4)
def formulas_by_order(most_drops, materials):
    """For each order the formulas that have it, each with how even it is."""
    found = {}
    for formula in product(range(6), repeat=len(materials)):
        if may_be(most_drops, materials, formula):
            over, *led = course(materials, formula)
            found.setdefault(tuple(led[::2]), {})[formula] = min(led[1::2]) if led else 0
    return found


def fewest(found):
    drops = min(sum(formula) for formula in found)
    as_few = [formula for formula in found if sum(formula) == drops]
    return [drops, found[min(as_few)], len(as_few), *min(as_few)]


def even(found):
    evenness, drops = max((evenness, -sum(formula)) for formula, evenness in found.items())
    as_good = [formula for formula in found if (found[formula], -sum(formula)) == (evenness, drops)]
    return [evenness, -drops, len(as_good), *min(as_good)]


def of_an_order(name, order, most_drops, materials):
    if not all(number in range(len(materials)) for number in order):
        return [-1]
    if len(set(order)) != len(order):
        return [-4]
    found = formulas_by_order(most_drops, materials).get(tuple(order))
    if found is None:
        return [-6]
    return fewest(found) if name == "fewest" else even(found)


def stands_ahead(one, other):
    """Whether one order stands ahead of another, which is not the same."""
    for number, different in zip(one, other):
        if number != different:
            return number < different
    return len(one) < len(other)


def orders(most_drops, materials):
    found = formulas_by_order(most_drops, materials)
    answer = [len(found)]
    # As many stand ahead of one as its place is.
    places = {order: sum(stands_ahead(other, order) for other in found if other != order) for order in found}
    for order in sorted(found, key=places.get):
        answer += [len(order), *order]
    return answer


def answers(calls):
    """calls: tuples of a call's name and its numbers, a formula or an order as one list."""
    most_drops = 1
    materials = ()
    rows = []
    for name, *numbers in calls:
        if name == "begins":
            if numbers[0] in range(1, 21):
                most_drops, materials = numbers[0], ()
                rows.append([0])
            else:
                rows.append([-1])
        elif name == "material":
            strong, lasts, drops = numbers
            if strong not in range(1, 101) or lasts not in range(1, 25) or drops not in range(6):
                rows.append([-1])
            elif len(materials) == 4:
                rows.append([-5])
            else:
                rows.append([len(materials)])
                materials = materials + ((strong, lasts, drops),)
        elif name == "course":
            formula = numbers[0]
            if len(formula) != len(materials):
                rows.append([-1])
            elif not may_be(most_drops, materials, formula):
                rows.append([-4])
            else:
                rows.append(course(materials, formula))
        elif name == "orders":
            rows.append(orders(most_drops, materials))
        else:
            rows.append(of_an_order(name, numbers[0], most_drops, materials))
    return rows
