"""Mixes of columns of integers: parts from 0 on, one for each column, of the greatest worth among those that keep
some sums fixed and others within bounds.

A mix is told by a Table of sums.py with these names: 2 * k for the part of the column k, 2 * k + 1 for what the row
k leaves of its right number, SPARE for what all bounds are widened by. The first rows are fixed: they leave 0, and
their names never come back inside. What the table tells of them stands behind all outside names, ahead of each
row's last item.
"""

from toldmeans.ratios import lowest
from toldmeans.sums import SPARE, Table, turned


def first_mix(columns, right, spares, starts):
    """The table in which the columns of starts, one for each fixed row, have all of the parts, and the spare number
    is as great as these parts need it; its last row is that of a worth of 0."""
    rows = []
    for k, number in enumerate(right):
        rows.append([column[k] for column in columns] + [-spares[k], number])
    rows.append([0 for _ in columns] + [0, 0])
    inside = [2 * k + 1 for k in range(len(right))]
    table = Table(rows, 1, inside, [2 * k for k in range(len(columns))] + [SPARE])
    for k, start in enumerate(starts):
        table = shut(table, k, table.outside.index(2 * start))
    at = widest(table, spares)
    if at is not None:
        table = turned(table, at, table.outside.index(SPARE))
    return table


def shut(table, at, column):
    """The table with a fixed row's name turned outside, and its column behind all others."""
    done = turned(table, at, column)
    rows = [[*row[:column], *row[column + 1:-1], row[column], row[-1]] for row in done.rows]
    return Table(rows, done.bottom, done.inside, done.outside[:column] + done.outside[column + 1:])


def widest(table, spares):
    """The row that needs the greatest spare number, None if none needs any."""
    best = None
    for k, by in enumerate(spares):
        short = table.rows[k][-1]
        if short < 0 and (best is None or short * spares[best] < table.rows[best][-1] * by):
            best = k
    return best


def slack_items(table, many):
    """For each row of the table, the items of what each of so many rows leaves of its right number."""
    fixed = len(table.rows[0]) - 1 - len(table.outside)
    columns = [len(table.outside) + k for k in range(fixed)]
    for k in range(fixed, many):
        columns.append(table.outside.index(2 * k + 1) if 2 * k + 1 in table.outside else None)
    found = []
    for row in table.rows:
        found.append([0 if column is None else row[column] for column in columns])
    for at, name in enumerate(table.inside):
        if name > 0 and name & 1 == 1:
            found[at][name >> 1] = table.bottom
    return found


def with_columns(table, columns, costs):
    """The table with more columns behind those that it has, and their worths."""
    many = len(table.outside)
    known = len([name for name in [*table.inside, *table.outside] if name >= 0 and name & 1 == 0])
    rows = []
    for row, basis in zip(table.rows, slack_items(table, len(columns[0]))):
        items = [sum([one * other for one, other in zip(column, basis)]) for column in columns]
        rows.append(row[:many] + items + row[many:])
    for k, cost in enumerate(costs):
        rows[-1][many + k] = rows[-1][many + k] - table.bottom * cost
    names = [2 * (known + k) for k in range(len(columns))]
    return Table(rows, table.bottom, table.inside, table.outside + names)


def cost_of_name(name, costs, spare):
    """What a name adds to the worth."""
    if name == SPARE:
        return spare
    if name & 1 == 1:
        return 0
    return costs[name >> 1]


def with_goal(table, costs, spare):
    """The table with other worths of the columns, and another one of the spare number."""
    goal = [0 for _ in table.rows[0]]
    for at, name in enumerate(table.inside):
        cost = cost_of_name(name, costs, spare)
        if cost != 0:
            goal = [number + cost * item for number, item in zip(goal, table.rows[at])]
    for k, name in enumerate(table.outside):
        goal[k] = goal[k] - table.bottom * cost_of_name(name, costs, spare)
    return Table([*table.rows[:-1], goal], table.bottom, table.inside, table.outside)


def without_spare(table):
    """The table without the spare number, which is 0."""
    if SPARE in table.inside:
        at = table.inside.index(SPARE)
        for column in range(len(table.outside)):
            if table.rows[at][column] != 0:
                return without_spare(turned(table, at, column))
        return table
    at = table.outside.index(SPARE)
    rows = [row[:at] + row[at + 1:] for row in table.rows]
    return Table(rows, table.bottom, table.inside, table.outside[:at] + table.outside[at + 1:])


def spare_of(table):
    """The spare number, as a pair."""
    if SPARE in table.inside:
        return lowest(table.rows[table.inside.index(SPARE)][-1], table.bottom)
    return (0, 1)


def parts_of(table):
    """The pairs of a column's index and its part, for all parts above 0."""
    found = []
    for at, name in enumerate(table.inside):
        if name >= 0 and name & 1 == 0 and table.rows[at][-1] > 0:
            found.append((name >> 1, lowest(table.rows[at][-1], table.bottom)))
    return found


def weights_of(table, many):
    """The weights of so many rows: their sum, each row times its weight, is at least the worth of each column."""
    return [lowest(item, table.bottom) for item in slack_items(table, many)[-1]]
