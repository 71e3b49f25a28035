"""The greatest value of a sum of spots while other sums keep their bounds, with what shows it."""

from math import gcd

from toldmeans.errors import BadRow
from toldmeans.ratios import lower, lowest, share, times
from toldmeans.rows import is_judged, is_judged_row, is_row, joint_sum, joint_sums, kept, over_one_bottom, told_row

# The name of what all sums are lowered by while there are no spots yet; it goes ahead of all others in a tie.
SPARE = -1


class Reached:
    """A greatest value, spots that have it, and weights that bar a greater one."""

    def __init__(self, number, spots, weights):
        self.number = kept(number)
        self.spots = kept(spots)
        self.weights = kept(weights)


class Endless:
    """Spots, and a run along which the value rises without end."""

    def __init__(self, spots, run):
        self.spots = kept(spots)
        self.run = kept(run)


class Nothing:
    """Weights that show that there are no spots."""

    def __init__(self, weights):
        self.weights = kept(weights)


class Table:
    """Names for numbers from 0 on: 0, 1, .. for the spots, then one for what each sum leaves of its right number.
    Outside names are 0 for now. The row of an inside name says that bottom times this number is the row's last
    item less the sum of its other ones, each times the outside name of its place. The rows behind these tell
    values in the same way; the last one of them is to be raised."""

    def __init__(self, rows, bottom, inside, outside):
        self.rows = rows
        self.bottom = bottom
        self.inside = inside
        self.outside = outside


def is_rows(value):
    """Whether a value is one or more rows of as many ratios each, at least one."""
    if not isinstance(value, (tuple, list)) or len(value) == 0:
        return False
    if not all([is_row(row) for row in value]):
        return False
    return len(value[0]) > 0 and all([len(row) == len(value[0]) for row in value])


def check_sums(rows, right, worth):
    """The errors that largest and is_largest share."""
    if not is_rows(rows):
        raise BadRow(rows)
    if not is_row(right) or len(right) != len(rows):
        raise BadRow(right)
    if not is_row(worth) or len(worth) != len(rows[0]):
        raise BadRow(worth)


def whole_row(row):
    """A row of ratios times a ratio above 0, so that they are integers without a common divisor; and this ratio."""
    tops, bottom = over_one_bottom(told_row(row))
    most = 0
    for top in tops:
        most = gcd(most, top)
    most = max(1, most)
    return [top // most for top in tops], lowest(bottom, most)


def first_table(rows, right, worth):
    """The table of all sums, with the spots outside, and the ratio that each of its rows was made longer by."""
    many = len(worth)
    made = [whole_row([*row, number]) for row, number in zip(rows, right)]
    made.append(whole_row([times(-1, number) for number in worth] + [0]))
    names = [many + k for k in range(len(rows))]
    return Table([row for row, _ in made], 1, names, list(range(many))), [factor for _, factor in made]


def with_spare(table):
    """The table with the spare name, brought inside so that no inside name is below 0; raised is its negative."""
    many = len(table.inside)
    rows = [[*row[:-1], -1, row[-1]] for row in table.rows[:many]]
    rows.append([*table.rows[many][:-1], 0, table.rows[many][-1]])
    rows.append([0 for _ in table.outside] + [1, 0])
    least = 0
    for k in range(many):
        if rows[k][-1] < rows[least][-1]:
            least = k
    spare = len(table.outside)
    return turned(Table(rows, table.bottom, table.inside, [*table.outside, SPARE]), least, spare)


def without_spare(table):
    """The table without the spare name, which is outside, and without the row that it was raised by."""
    at = table.outside.index(SPARE)
    rows = [row[:at] + row[at + 1:] for row in table.rows[:-1]]
    return Table(rows, table.bottom, table.inside, table.outside[:at] + table.outside[at + 1:])


def turned(table, at, column):
    """The table in which the inside name of a row and the outside name of a column have changed places."""
    fixed = table.rows[at]
    sign = 1 if fixed[column] > 0 else -1
    size = sign * fixed[column]
    made = []
    for k, row in enumerate(table.rows):
        factor = sign * row[column]
        if k == at:
            new = [sign * number for number in row]
            new[column] = sign * table.bottom
        else:
            # All items are determinants of the first ones, so these divisions leave no rest.
            new = [(size * one - factor * other) // table.bottom for one, other in zip(row, fixed)]
            new[column] = -factor
        made.append(new)
    inside = list(table.inside)
    outside = list(table.outside)
    inside[at], outside[column] = outside[column], inside[at]
    return Table(made, size, inside, outside)


def barring_row(table, column):
    """The row whose inside name is the first to reach 0 as the name of a column rises; None if none does."""
    best = None
    for k, name in enumerate(table.inside):
        row = table.rows[k]
        if row[column] > 0:
            if best is None:
                best = k
            else:
                other = table.rows[best]
                gap = row[-1] * other[column] - other[-1] * row[column]
                if gap < 0 or (gap == 0 and name < table.inside[best]):
                    best = k
    return best


def next_turn(table):
    """The row and the column to turn: both None if the last row cannot rise, the row alone None if it does
    without end. The greatest rise goes first: always the steepest one can lead through very many corners."""
    goal = table.rows[-1]
    best = (None, None)
    first = None
    gain = 0
    scale = 1
    for column in range(len(table.outside)):
        if goal[column] < 0:
            at = barring_row(table, column)
            if at is None:
                return (None, column)
            row = table.rows[at]
            rise = -goal[column] * row[-1]
            if rise * scale > gain * row[column]:
                best = (at, column)
                gain = rise
                scale = row[column]
            if first is None or table.outside[column] < table.outside[first[1]]:
                first = (at, column)
    # Where nothing rises, the least names lead on without going round in circles.
    if gain == 0 and first is not None:
        return first
    return best


def raised(table):
    """The table turned until its last row is as great as it can be, and the column in which it rises without
    end, or None."""
    at, column = next_turn(table)
    while at is not None:
        table = turned(table, at, column)
        at, column = next_turn(table)
    return table, column


def numbers_of(table, names, numbers, many):
    """The first many ones of a row of numbers above the table's bottom, told by their names; 0 for all others."""
    found = [(0, 1) for _ in range(many)]
    for name, number in zip(names, numbers):
        if 0 <= name < many:
            found[name] = lowest(number, table.bottom)
    return found


def spots_of(table, many):
    """The spots for which all outside names are 0."""
    return numbers_of(table, table.inside, [row[-1] for row in table.rows], many)


def run_of(table, column, many):
    """How the spots move as the name of a column rises."""
    moves = [-table.rows[k][column] for k in range(len(table.inside))]
    return numbers_of(table, [*table.inside, table.outside[column]], [*moves, table.bottom], many)


def weights_of(table, factors, many):
    """The weights of the rows as they were passed, which stand in the table's last row."""
    found = numbers_of(table, [name - many for name in table.outside], table.rows[-1], len(factors))
    return [times(number, factor) for number, factor in zip(found, factors)]


def largest(rows, right, worth):
    """Reached, Endless or Nothing for the sum of all items of worth, each times its spot."""
    check_sums(rows, right, worth)
    many = len(worth)
    table, factors = first_table(rows, right, worth)
    length = factors.pop()
    if min([row[-1] for row in table.rows]) < 0:
        table, _ = raised(with_spare(table))
        if SPARE in table.inside:
            return Nothing(weights_of(table, factors, many))
        table = without_spare(table)
    table, column = raised(table)
    spots = spots_of(table, many)
    if column is not None:
        return Endless(spots, run_of(table, column, many))
    weights = [share(weight, length) for weight in weights_of(table, factors, many)]
    return Reached(joint_sum(told_row(worth), spots), spots, weights)


def are_amounts(value, many):
    """Whether a value within a judged one is a row of so many ratios from 0 on."""
    if not is_judged_row(value) or len(value) != many:
        return False
    return not any([lower(number, 0) for number in value])


def at_most(rows, amounts, bounds):
    """Whether the sum of each row's items, each times its amount, is at most the row's bound."""
    return not any([lower(bound, number) for number, bound in zip(joint_sums(rows, amounts), bounds)])


def at_least(rows, amounts, bounds):
    """Whether the sum of each row's items, each times its amount, is at least the row's bound."""
    return not any([lower(number, bound) for number, bound in zip(joint_sums(rows, amounts), bounds)])


def is_reached(rows, right, worth, found):
    """Whether a Reached is right."""
    if not are_amounts(found.spots, len(worth)) or not are_amounts(found.weights, len(rows)):
        return False
    if not is_judged(found.number):
        return False
    spots = told_row(found.spots)
    weights = told_row(found.weights)
    numbers = told_row([found.number, joint_sum(worth, spots), joint_sum(right, weights)])
    if numbers[0] != numbers[1] or numbers[0] != numbers[2]:
        return False
    return at_most(rows, spots, right) and at_least(columns_of(rows), weights, worth)


def is_endless(rows, right, worth, found):
    """Whether an Endless is right."""
    if not are_amounts(found.spots, len(worth)) or not are_amounts(found.run, len(worth)):
        return False
    spots = told_row(found.spots)
    run = told_row(found.run)
    if not lower(0, joint_sum(worth, run)):
        return False
    return at_most(rows, spots, right) and at_most(rows, run, [0 for _ in rows])


def is_nothing(rows, right, worth, found):
    """Whether a Nothing is right."""
    if not are_amounts(found.weights, len(rows)):
        return False
    weights = told_row(found.weights)
    if not lower(joint_sum(right, weights), 0):
        return False
    return at_least(columns_of(rows), weights, [0 for _ in worth])


def columns_of(rows):
    """The rows of what stands at each place in the rows."""
    return [list(column) for column in zip(*rows)]


def is_largest(rows, right, worth, told):
    """Whether any value is what largest describes."""
    check_sums(rows, right, worth)
    pairs = [told_row(row) for row in rows]
    bounds = told_row(right)
    aim = told_row(worth)
    if isinstance(told, Reached):
        return is_reached(pairs, bounds, aim, told)
    if isinstance(told, Endless):
        return is_endless(pairs, bounds, aim, told)
    return isinstance(told, Nothing) and is_nothing(pairs, bounds, aim, told)
