"""Greatest means to a gap: mixes of ever more places, until a sum over the rows is hardly too low anywhere.

Nothing here is exact: what is found is made exact, and looked at once more, by those who ask.
"""

from toldmeans.mixes import first_mix, parts_of, slack_items, spare_of, with_columns, with_goal
from toldmeans.ratios import floor_of, lower, times
from toldmeans.strips import deepest, lowered_rows, place_on, quotients_at, strips_of
from toldmeans.sums import raised


class Search:
    """What is asked for: families of as many rows each, the bounds of the rows as (index, side, number), and whether
    all families have the same places."""

    def __init__(self, families, bounds, twins):
        self.families = families
        self.bounds = bounds
        self.twins = twins


class Frame:
    """What stays the same all along: all numbers are integers above 2 ** bits, gap is that of the question."""

    def __init__(self, search, bits, gap, price):
        self.search = search
        self.bits = bits
        self.gap = gap
        self.price = price
        self.strips = [strips_of(family, bits) for family in search.families]


class Stage:
    """The mix of the places found so far, each with the index of its family."""

    def __init__(self, table, spots, costs):
        self.table = table
        self.spots = spots
        self.costs = costs


class Near:
    """What was found: parts of places, each with the index of its family, and a sum: its factors, its number, and
    the weights of the fixed rows but the first. No number tells that only parts were asked for, no parts tell that
    no share fits."""

    def __init__(self, parts, number, factors, others):
        self.parts = parts
        self.number = number
        self.factors = factors
        self.others = others


def first_places(search):
    """The knots of all families, but those at which nothing is asked."""
    found = []
    for at, family in enumerate(search.families):
        for knot in family.knots:
            if lower(0, family.weight.value(knot)):
                found.append((at, knot))
    return found


def columns_of(search, places, bits):
    """The columns of places, with the items of the fixed rows ahead, and their worths."""
    columns = []
    costs = []
    for at, place in places:
        family = search.families[at]
        numbers = quotients_at(family, place, bits)
        bound = [numbers[1 + index] if side == 1 else -numbers[1 + index] for index, side, _ in search.bounds]
        columns.append([*family.fixed, *bound])
        costs.append(numbers[0])
    return columns, costs


def right_of(search, bits):
    """The numbers on the right of all rows; the first row is that of the whole, the other fixed ones are of 0."""
    fixed = [0 for _ in search.families[0].fixed]
    fixed[0] = 1
    numbers = [floor_of(times(number, 1 << bits)) for _, _, number in search.bounds]
    return fixed + [number if side == 1 else -number for number, (_, side, _) in zip(numbers, search.bounds)]


def quotient_ends(tops, bottoms):
    """The least and the greatest quotient of corners, roughly."""
    found = [top // bottom for top, bottom in zip(tops, bottoms)]
    return min(found), max(found) + 1


def sizes_of(search):
    """How far the goal reaches from its least to its greatest number, and how far anything is from 0, roughly."""
    places = first_places(search)
    columns, costs = columns_of(search, places, 0)
    ends = list(costs)
    most = max([abs(number) for column in columns for number in column[len(search.families[0].fixed):]] + [0])
    for family in search.families:
        for strip in strips_of(family, 8):
            ends.extend(list(quotient_ends(strip.goal, strip.weight)))
            for row in strip.rows:
                low, high = quotient_ends(row, strip.weight)
                most = max(most, -low, high)
    return max(ends) - min(ends) + 1, max(most, max(ends), -min(ends))


def framed(search, bits, finer, aims):
    """The Frame of a question; aims tells whether its goal counts."""
    reach, most = sizes_of(search)
    # At this price of what is missed, a share that misses by a quarter of the gap goes ahead of all that miss by
    # more than half of it; and no factor grows beyond it.
    price = (4 * reach) << bits if aims else 1
    fine = bits + 8 + finer + price.bit_length() + (most + 1).bit_length()
    return Frame(search, fine, 1 << (fine - bits), price)


def first_stage(frame):
    """The Stage of all knots."""
    search = frame.search
    places = first_places(search)
    columns, costs = columns_of(search, places, frame.bits)
    families = [at for at, _ in places]
    fixed = len(search.families[0].fixed)
    starts = [families.index(k) for k in range(fixed)]
    right = right_of(search, frame.bits)
    spares = [0 for _ in starts] + [1 for _ in search.bounds]
    return Stage(first_mix(columns, right, spares, starts), places, costs)


def grown(frame, stage, places, with_costs):
    """The Stage with more places, raised; without costs their worths are 0 for now."""
    columns, costs = columns_of(frame.search, places, frame.bits)
    table = with_columns(stage.table, columns, costs if with_costs else [0 for _ in costs])
    table, _ = raised(table)
    return Stage(table, stage.spots + places, stage.costs + costs)


def weight_items(frame, stage):
    """The weights of the fixed rows, as ratios of units of 2 ** -bits, and those of the bounds, above 2 ** bits."""
    many = len(frame.search.families[0].fixed)
    found = slack_items(stage.table, many + len(frame.search.bounds))[-1]
    fixed = [(item, stage.table.bottom) for item in found[:many]]
    return fixed, [(item << frame.bits) // stage.table.bottom for item in found[many:]]


def factors_near(frame, weights):
    """The factors of the rows, above 2 ** bits."""
    factors = [0 for _ in frame.search.families[0].rows]
    for (index, side, _), weight in zip(frame.search.bounds, weights):
        factors[index] = factors[index] + (weight if side == 1 else -weight)
    return factors


def bases_of(frame, fixed):
    """For each family the number that its sum has besides the rows."""
    found = []
    for family in frame.search.families:
        top = sum([item * weight[0] for item, weight in zip(family.fixed, fixed)])
        found.append(top // fixed[0][1])
    return found


def too_low(frame, bases, factors, aims, free, slack):
    """How far the sum is too low at most, and where it is so by more than what is free: how far, with the index of
    the family and the place."""
    worst = 0
    found = []
    for at, strips in enumerate(frame.strips):
        for strip in strips:
            row = lowered_rows(strip, factors, frame.bits, aims)
            floor, best = deepest(row, strip.weight, -bases[at] - free, slack)
            if best is not None:
                found.append((-bases[at] - best[0], at, place_on(strip, best[1], best[2])))
            if floor is not None:
                worst = max(worst, -bases[at] - floor)
    return worst, found


def worth_adding(frame, found):
    """The places, with their families, that are to be added of those at which a sum is too low."""
    most = max([number for number, _, _ in found])
    places = []
    for number, at, place in found:
        if 4 * number >= most:
            families = list(range(len(frame.search.families))) if frame.search.twins else [at]
            places.extend([(family, place) for family in families])
    return places


def parts_near(frame, stage):
    """The parts of the mix, above 2 ** bits, with their places and families."""
    whole = 1 << frame.bits
    found = [(index, floor_of(times(part, whole))) for index, part in parts_of(stage.table)]
    most = max([part for _, part in found])
    left = whole - sum([part for _, part in found])
    parts = []
    for index, part in found:
        if part == most:
            part = part + left
            left = 0
        if part > 0:
            at, place = stage.spots[index]
            parts.append((at, place, (part, whole)))
    return parts


def sum_near(frame, fixed, factors, worst):
    """The Near of a sum, its number raised by what it is too low and a little more."""
    whole = 1 << frame.bits
    number = floor_of(fixed[0]) + worst + (frame.gap >> 4)
    others = [times(weight, (1, whole)) for weight in fixed[1:]]
    return Near((), (number, whole), [(factor, whole) for factor in factors], others)


def fitted(frame, stage, most):
    """The Stage of a share that misses the bounds by most at most, and None; or None and the Near of a sum that
    shows that no share fits."""
    table, _ = raised(with_goal(stage.table, [0 for _ in stage.spots], -1))
    stage = Stage(table, stage.spots, stage.costs)
    miss = floor_of(spare_of(table))
    while miss > most:
        fixed, weights = weight_items(frame, stage)
        factors = factors_near(frame, weights)
        worst, found = too_low(frame, bases_of(frame, fixed), factors, False, miss >> 1, miss >> 3)
        if len(found) == 0:
            return None, sum_near(frame, fixed, factors, worst)
        stage = grown(frame, stage, worth_adding(frame, found), False)
        miss = floor_of(spare_of(stage.table))
    return stage, None


def any_near(search, bits, finer):
    """The Near of parts that fit to the gap, or of a sum that shows that no share fits."""
    frame = framed(search, bits, finer, False)
    stage, barred = fitted(frame, first_stage(frame), 3 * frame.gap >> 2)
    if stage is None:
        return barred
    return Near(parts_near(frame, stage), None, (), ())


def greatest_near(search, bits, finer):
    """The Near of parts that fit to the gap, and of a sum that bars a mean greater by more than the gap; or of a sum
    that shows that no share fits."""
    frame = framed(search, bits, finer, True)
    stage, barred = fitted(frame, first_stage(frame), frame.gap >> 2)
    if stage is None:
        return barred
    table, _ = raised(with_goal(stage.table, stage.costs, -frame.price))
    stage = Stage(table, stage.spots, stage.costs)
    while True:
        fixed, weights = weight_items(frame, stage)
        factors = factors_near(frame, weights)
        worst, found = too_low(frame, bases_of(frame, fixed), factors, True, frame.gap >> 2, frame.gap >> 3)
        if len(found) == 0:
            near = sum_near(frame, fixed, factors, worst)
            return Near(parts_near(frame, stage), near.number, near.factors, near.others)
        stage = grown(frame, stage, worth_adding(frame, found), True)
