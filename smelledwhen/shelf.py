"""A shelf of materials, and the calls about it."""

BEGINS = 0
MATERIAL = 1
COURSE = 2
FEWEST = 3
EVEN = 4
ORDERS = 5

MOST_MATERIALS = 4
MOST_STRONG = 100
MOST_LASTS = 24
MOST_DROPS_OF_ONE = 5
MOST_DROPS_OF_ALL = 20
DROPS_AT_THE_BEGINNING = 1

NOT_AS_TOLD = -1
NOT_THERE = -1
MAY_NOT_BE = -4
TOLD_TWICE = -4
NO_ROOM = -5
NO_FORMULA = -6


class UnknownCall(ValueError):
    pass


class Material:
    def __init__(self, strong, lasts, most):
        self.strong = strong
        self.lasts = lasts
        self.most = most


class Mixture:
    # led is what turns gives back for the formula.
    def __init__(self, formula, led):
        self.formula = formula
        self.drops = sum(formula)
        self.order = led[::2]
        self.evenness = min(led[1::2], default=0)


class Shelf:
    def __init__(self):
        self.most_drops = DROPS_AT_THE_BEGINNING
        self.materials = []

    def begins(self, drops):
        if not is_within(drops, 1, MOST_DROPS_OF_ALL):
            return [NOT_AS_TOLD]
        self.most_drops = drops
        self.materials = []
        return [0]

    def material(self, strong, lasts, drops):
        if not is_material(strong, lasts, drops):
            return [NOT_AS_TOLD]
        if len(self.materials) == MOST_MATERIALS:
            return [NO_ROOM]
        self.materials.append(Material(strong, lasts, drops))
        return [len(self.materials) - 1]

    def course(self, formula):
        if len(formula) != len(self.materials):
            return [NOT_AS_TOLD]
        if not self.may_be(formula):
            return [MAY_NOT_BE]
        return [over_at(self.materials, formula)] + turns(self.materials, formula)

    def may_be(self, formula):
        for material, drops in zip(self.materials, formula):
            if drops > material.most:
                return False
        return sum(formula) <= self.most_drops

    def fewest(self, order):
        refusal = order_refusal(order, len(self.materials))
        if refusal is not None:
            return [refusal]
        mixtures = self.mixtures_with(order)
        if not mixtures:
            return [NO_FORMULA]
        return told_fewest(mixtures)

    def even(self, order):
        refusal = order_refusal(order, len(self.materials))
        if refusal is not None:
            return [refusal]
        mixtures = self.mixtures_with(order)
        if not mixtures:
            return [NO_FORMULA]
        return told_even(mixtures)

    def orders(self):
        return told_orders([mixture.order for mixture in self.mixtures()])

    def mixtures_with(self, order):
        return [mixture for mixture in self.mixtures() if mixture.order == order]

    def mixtures(self):
        return [Mixture(formula, turns(self.materials, formula)) for formula in self.formulas()]

    def formulas(self):
        # Of two the one with fewer drops of the first material that differs comes first: the earlier.
        begun = [[]]
        for material in self.materials:
            longer = []
            for formula in begun:
                longer.extend([formula + [drops] for drops in range(material.most + 1)])
            begun = longer
        return [formula for formula in begun if self.may_be(formula)]


def is_within(number, least, most):
    return least <= number and number <= most


def is_material(strong, lasts, drops):
    if not is_within(strong, 1, MOST_STRONG):
        return False
    if not is_within(lasts, 1, MOST_LASTS):
        return False
    return is_within(drops, 0, MOST_DROPS_OF_ONE)


def over_at(materials, formula):
    # A material of which there is no drop is never there, however long it would last.
    return max([material.lasts for material, drops in zip(materials, formula) if drops > 0], default=0)


def turns(materials, formula):
    # One flat list, a material and then at how many times it leads, since so the course is answered.
    led = []
    for when in range(over_at(materials, formula)):
        number = leader(materials, formula, when)
        if led and led[-2] == number:
            led[-1] += 1
        else:
            led.extend([number, 1])
    return led


def leader(materials, formula, when):
    # Two fractions are compared crosswise, for a division would make some that differ the same.
    # Only a stronger one takes the lead, so of as strong ones the lowest number keeps it,
    # and one that is gone never has it.
    leading = None
    highest = 0
    highest_lasts = 1
    for number, material in enumerate(materials):
        strength = strength_by_lasting(material, formula[number], when)
        if strength * highest_lasts > highest * material.lasts:
            leading = number
            highest = strength
            highest_lasts = material.lasts
    return leading


def strength_by_lasting(material, drops, when):
    # Times how long it lasts, so that it is whole.
    return material.strong * drops * max(material.lasts - when, 0)


def order_refusal(order, count):
    if max(order, default=-1) >= count:
        return NOT_THERE
    if any([order.count(number) > 1 for number in order]):
        return TOLD_TWICE
    return None


def told_fewest(mixtures):
    # The mixtures come the earliest first, so of as good ones the first is the earliest.
    good = of_fewest_drops(mixtures)
    return [good[0].drops, good[0].evenness, len(good)] + good[0].formula


def told_even(mixtures):
    good = of_fewest_drops(most_even(mixtures))
    return [good[0].evenness, good[0].drops, len(good)] + good[0].formula


def of_fewest_drops(mixtures):
    fewest = min([mixture.drops for mixture in mixtures])
    return [mixture for mixture in mixtures if mixture.drops == fewest]


def most_even(mixtures):
    evenness = max([mixture.evenness for mixture in mixtures])
    return [mixture for mixture in mixtures if mixture.evenness == evenness]


def told_orders(orders):
    # Python sorts lists as the orders are to stand: a beginning of another ahead of it, else the lower number.
    different = []
    for order in sorted(orders):
        if order not in different:
            different.append(order)
    told = [len(different)]
    for order in different:
        told.append(len(order))
        told.extend(order)
    return told


def answers(calls):
    shelf = Shelf()
    given = []
    place = 0
    while place < len(calls):
        end = call_end(calls, place)
        answered = answer(shelf, calls[place:end])
        given.append(len(answered))
        given.extend(answered)
        place = end
    return given


def call_end(calls, place):
    if calls[place] == BEGINS:
        return place + 2
    if calls[place] == MATERIAL:
        return place + 4
    if calls[place] in (COURSE, FEWEST, EVEN):
        return place + 2 + calls[place + 1]
    if calls[place] == ORDERS:
        return place + 1
    # Where an unknown call ends can't be told, nor what is behind it.
    raise UnknownCall("a call with this number is not there")


def answer(shelf, call):
    if call[0] == BEGINS:
        return shelf.begins(call[1])
    if call[0] == MATERIAL:
        return shelf.material(call[1], call[2], call[3])
    if call[0] == ORDERS:
        return shelf.orders()
    # Ahead of a formula or an order stands its length.
    if call[0] == COURSE:
        return shelf.course(call[2:])
    if call[0] == FEWEST:
        return shelf.fewest(call[2:])
    return shelf.even(call[2:])
