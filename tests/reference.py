"""The words of the document told a second time, with fractions, to compare the program with."""

from fractions import Fraction
from itertools import groupby


def strength(material, drops, when):
    strong, lasts, most = material
    if when >= lasts:
        return Fraction(0)
    return Fraction(strong * drops * (lasts - when), lasts)


def leads(materials, formula, when):
    """The number of the one that leads, or None."""
    strengths = [strength(material, drops, when) for material, drops in zip(materials, formula)]
    if not any(strengths):
        return None
    return strengths.index(max(strengths))


def course(materials, formula):
    leaders = []
    while leads(materials, formula, len(leaders)) is not None:
        leaders.append(leads(materials, formula, len(leaders)))
    answer = [len(leaders)]
    for number, run in groupby(leaders):
        answer += [number, len(list(run))]
    return answer


def answers(calls):
    """calls: tuples ("begins", drops), ("material", strong, lasts, drops), ("course", formula)."""
    most_drops = 1
    materials = []
    rows = []
    for name, *numbers in calls:
        if name == "begins":
            if numbers[0] in range(1, 21):
                most_drops, materials = numbers[0], []
                rows.append([0])
            else:
                rows.append([-1])
        elif name == "material":
            strong, lasts, drops = numbers
            if strong not in range(1, 101) or lasts not in range(1, 25) or drops not in range(6):
                rows.append([-1])
            elif len(materials) == 4:
                rows.append([-5])
            else:
                rows.append([len(materials)])
                materials = materials + [(strong, lasts, drops)]
        else:
            formula = numbers[0]
            if len(formula) != len(materials):
                rows.append([-1])
            elif any(drops > most for drops, (s, l, most) in zip(formula, materials)) or sum(formula) > most_drops:
                rows.append([-4])
            else:
                rows.append(course(materials, formula))
    return rows
