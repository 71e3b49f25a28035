"""Broken lines: whether any share fits, greatest and least means, and what follows from told means, exactly."""

from toldmeans.broken import closed_step
from toldmeans.errors import BadNumber, BadRow, Unlike
from toldmeans.ratios import floor_of, is_ratio, is_whole, lower, minus, plus, times
from toldmeans.rows import is_judged, kept, pair_of, sum_of
from toldmeans.shares import Share, Told, functions_of, gap_missed, means_of
from toldmeans.straight import (asked, asked_rows, bound_rows, bounds_of, check_lines, edge, knots_of, mix_parts,
                                mix_weights, reached, share_at, share_of, sum_for, values_at)
from toldmeans.worths import is_sum, sum_at, worth_of


class Fitting:
    """A share that fits the rows."""

    def __init__(self, share):
        self.share = kept(share)


class NoShare:
    """A sum that is never below 0 although its worth is: so no share fits the rows."""

    def __init__(self, number, factors):
        self.number = kept(number)
        self.factors = kept(factors)


class Top:
    """A greatest mean, a share that has it, and a sum that bars a greater one."""

    def __init__(self, mean, share, number, factors):
        self.mean = kept(mean)
        self.share = kept(share)
        self.number = kept(number)
        self.factors = kept(factors)


class Bottom:
    """A least mean, a share that has it, and a sum that bars a lesser one."""

    def __init__(self, mean, share, number, factors):
        self.mean = kept(mean)
        self.share = kept(share)
        self.number = kept(number)
        self.factors = kept(factors)


class Gain:
    """The greatest sure gain, stakes that have it, and a share that bars a greater one."""

    def __init__(self, number, stakes, share):
        self.number = kept(number)
        self.stakes = kept(stakes)
        self.share = kept(share)


def check_some_lines(rows):
    """The errors of the questions that need at least one row."""
    if isinstance(rows, (tuple, list)) and len(rows) == 0:
        raise BadRow(rows)
    check_lines(rows, [])


def check_upper(rows, function):
    """The errors of questions for a greatest mean."""
    check_lines(rows, [function])
    if not function.is_upper():
        raise Unlike("kind")


def check_lower(rows, function):
    """The errors of questions for a least mean."""
    check_lines(rows, [function])
    if not function.is_lower():
        raise Unlike("kind")


def is_barred(question):
    """Whether no share keeps the bounds of a question."""
    return question.spare != (0, 1)


def no_share(question):
    """The NoShare of a question whose bounds no share keeps."""
    number, factors = sum_for(question, question.mix)
    return NoShare(number, factors)


def line_fits(rows):
    """Fitting or NoShare for a row of told means of lines."""
    check_some_lines(rows)
    question = asked_rows(rows, knots_of(functions_of(rows)))
    if is_barred(question):
        return no_share(question)
    return Fitting(share_of(question, question.mix))


def greatest_of(question, values):
    """The greatest mean of a function with these values at the knots, and the mix that has it."""
    mix = reached(question.mix, values)
    total = [times(values[index], part) for index, part in mix_parts(mix)]
    return sum_of(total), mix


def line_greatest(rows, function):
    """Top or NoShare for the greatest mean of a plain or an upper line."""
    check_upper(rows, function)
    knots = knots_of(functions_of(rows) + [function])
    question = asked_rows(rows, knots)
    if is_barred(question):
        return no_share(question)
    number, mix = greatest_of(question, values_at(function, knots))
    base, factors = sum_for(question, mix)
    return Top(number, share_of(question, mix), base, factors)


def line_least(rows, function):
    """Bottom or NoShare for the least mean of a plain or a lower line."""
    check_lower(rows, function)
    knots = knots_of(functions_of(rows) + [function])
    question = asked_rows(rows, knots)
    if is_barred(question):
        return no_share(question)
    number, mix = greatest_of(question, [times(-1, value) for value in values_at(function, knots)])
    base, factors = sum_for(question, mix)
    return Bottom(times(-1, number), share_of(question, mix), base, factors)


def is_share_at(value, knots):
    """Whether a value is a Share with its places at knots."""
    return isinstance(value, Share) and all([place in knots for place in value.places])


def is_fitting_at(value, rows, knots):
    """Whether a value is a Share with its places at knots that fits the rows."""
    return is_share_at(value, knots) and gap_missed(means_of(value, functions_of(rows)), rows) == (0, 1)


def is_no_share(rows, found, knots):
    """Whether a NoShare is right; knots are those of all functions of the rows."""
    if not is_sum(rows, found.number, found.factors):
        return False
    if not lower(worth_of(rows, found.number, found.factors), 0):
        return False
    # The sum is a lower line: where it is not below 0 at the knots, it is nowhere.
    return not any([lower(sum_at(rows, found.number, found.factors, knot), 0) for knot in knots])


def is_line_answer(rows, told):
    """Whether any value is what line_fits describes."""
    check_some_lines(rows)
    knots = knots_of(functions_of(rows))
    if isinstance(told, NoShare):
        return is_no_share(rows, told, knots)
    return isinstance(told, Fitting) and is_fitting_at(told.share, rows, knots)


def is_reached_mean(rows, function, found, sign):
    """Whether a Top, or with the sign -1 a Bottom, is right."""
    knots = knots_of(functions_of(rows) + [function])
    if not is_judged(found.mean) or not is_fitting_at(found.share, rows, knots):
        return False
    if not is_sum(rows, found.number, found.factors):
        return False
    bound = times(sign, worth_of(rows, found.number, found.factors))
    if pair_of(found.mean) != bound or means_of(found.share, [function])[0] != bound:
        return False
    for knot in knots:
        if lower(sum_at(rows, found.number, found.factors, knot), times(sign, function.value(knot))):
            return False
    return True


def is_top(rows, function, told):
    """Whether any value is what line_greatest describes."""
    check_upper(rows, function)
    if isinstance(told, NoShare):
        return is_no_share(rows, told, knots_of(functions_of(rows) + [function]))
    return isinstance(told, Top) and is_reached_mean(rows, function, told, 1)


def is_bottom(rows, function, told):
    """Whether any value is what line_least describes."""
    check_lower(rows, function)
    if isinstance(told, NoShare):
        return is_no_share(rows, told, knots_of(functions_of(rows) + [function]))
    return isinstance(told, Bottom) and is_reached_mean(rows, function, told, -1)


def median(low, high, place):
    """The two Tolds that say that a place is a median of shares from low to high."""
    if not is_ratio(low):
        raise BadNumber("low", low)
    if not is_ratio(high) or not lower(low, high):
        raise BadNumber("high", high)
    if not is_ratio(place) or lower(place, low) or lower(high, place):
        raise BadNumber("place", place)
    left = Told(closed_step(low, high, low, place), (1, 2), None)
    return (left, Told(closed_step(low, high, place, high), (1, 2), None))


def as_moves(rows, index, function):
    """The marks of the greatest mean of a function as the mean of one row's function moves."""
    check_upper(rows, function)
    if not is_whole(index) or index < 0 or index >= len(rows):
        raise BadNumber("index", index)
    if not rows[index].function.is_plain():
        raise Unlike("kind")
    functions = functions_of(rows)
    knots = knots_of(functions + [function])
    bounds = [bound for bound in bounds_of(rows) if bound[0] != index]
    question = asked(functions, bounds, knots, (0, 1))
    if is_barred(question):
        return ()
    return tuple(edge(question, values_at(functions[index], knots), values_at(function, knots)))


def sure_gain(rows):
    """The Gain of the greatest sure gain that the told means leave to stakes."""
    check_some_lines(rows)
    functions = functions_of(rows)
    bounds = bounds_of(rows)
    knots = knots_of(functions)
    shift = shift_below(functions, bounds, knots)
    question = asked(functions, bounds, knots, shift)
    weights = mix_weights(question.mix)[1:]
    stakes = [[(0, 1), (0, 1)] for _ in rows]
    for (index, side, _), weight in zip(bounds, weights):
        stakes[index][side] = weight
    share = share_at(knots, mix_parts(question.mix))
    return Gain(minus(question.spare, shift), [tuple(pair) for pair in stakes], share)


def shift_below(functions, bounds, knots):
    """An integer by which bounds can be narrowed so that no share keeps them all."""
    # So the least number by which they must be widened is above 0, as a part of a mix must be.
    rows, right = bound_rows(functions, bounds[:1], knots)
    most = 0
    for number in rows[0]:
        most = max(most, 1 - floor_of(minus(number, right[0])))
    return (most + 1, 1)


def are_stakes(rows, value):
    """Whether a value within a judged one is stakes for the rows."""
    if not isinstance(value, tuple) or len(value) != len(rows):
        return False
    found = []
    for row, pair in zip(rows, value):
        if not isinstance(pair, tuple) or len(pair) != 2:
            return False
        for bound, stake in zip((row.least, row.most), pair):
            if not is_judged(stake) or lower(stake, 0):
                return False
            if bound is None and pair_of(stake) != (0, 1):
                return False
            found.append(stake)
    return sum_of(found) == (1, 1)


def book_at(rows, stakes, place):
    """What stakes gain at a place."""
    gains = []
    for row, (one, other) in zip(rows, stakes):
        number = row.function.value(place)
        if row.least is not None:
            gains.append(times(one, minus(row.least, number)))
        if row.most is not None:
            gains.append(times(other, minus(number, row.most)))
    return sum_of(gains)


def widened(rows, number):
    """The pairs of bounds, None for none, each widened by a number."""
    found = []
    for row in rows:
        least = None if row.least is None else minus(row.least, number)
        most = None if row.most is None else plus(row.most, number)
        found.append((least, most))
    return found


def keeps(found, pairs):
    """Whether means keep pairs of bounds."""
    for number, (least, most) in zip(found, pairs):
        if least is not None and lower(number, least):
            return False
        if most is not None and lower(most, number):
            return False
    return True


def is_gain(rows, told):
    """Whether any value is what sure_gain describes."""
    check_some_lines(rows)
    knots = knots_of(functions_of(rows))
    if not isinstance(told, Gain) or not is_judged(told.number) or not are_stakes(rows, told.stakes):
        return False
    if not is_share_at(told.share, knots):
        return False
    # The book is a lower line, so its least value is that at a knot.
    if any([lower(book_at(rows, told.stakes, knot), told.number) for knot in knots]):
        return False
    return keeps(means_of(told.share, functions_of(rows)), widened(rows, told.number))


def follows(functions, knots, others, bound):
    """Whether a bound follows from others, which some share keeps."""
    question = asked(functions, others, knots, (0, 1))
    rows, right = bound_rows(functions, [bound], knots)
    number, _ = greatest_of(question, rows[0])
    return not lower(right[0], number)


def needless(rows):
    """The pairs (index, side) of bounds each of which follows from all others; or NoShare."""
    check_lines(rows, [])
    if len(rows) == 0:
        return ()
    functions = functions_of(rows)
    knots = knots_of(functions)
    bounds = bounds_of(rows)
    question = asked(functions, bounds, knots, (0, 1))
    if is_barred(question):
        return no_share(question)
    found = []
    for k, bound in enumerate(bounds):
        others = bounds[:k] + bounds[k + 1:]
        if functions[bound[0]].is_plain() and follows(functions, knots, others, bound):
            found.append((bound[0], bound[1]))
    return tuple(found)


def least_rows(rows):
    """The rows that are left when bounds that follow from others are dropped one by one; or NoShare."""
    check_lines(rows, [])
    if len(rows) == 0:
        return ()
    functions = functions_of(rows)
    knots = knots_of(functions)
    question = asked_rows(rows, knots)
    if is_barred(question):
        return no_share(question)
    left = bounds_of(rows)
    for bound in bounds_of(rows):
        others = [other for other in left if other != bound]
        if functions[bound[0]].is_plain() and follows(functions, knots, others, bound):
            left = others
    return tuple(rows_left(rows, left))


def rows_left(rows, bounds):
    """The rows that have some of their bounds left, in order."""
    found = []
    for index, row in enumerate(rows):
        sides = [side for at, side, _ in bounds if at == index]
        many = len([bound for bound in (row.least, row.most) if bound is not None])
        if len(sides) == many:
            found.append(row)
        elif len(sides) > 0:
            found.append(Told(row.function, row.least if 0 in sides else None, row.most if 1 in sides else None))
    return found
