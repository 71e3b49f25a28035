"""Promises about the told means of a desk: their texts, and whether they are kept."""

from toldmeans.broken import scaled
from toldmeans.errors import BadText, NoName, Unlike
from toldmeans.items import item_named
from toldmeans.lines import Bottom, Top, line_greatest, line_least
from toldmeans.means import Above, Fits, any_fit, greatest_mean
from toldmeans.orders import cost_line
from toldmeans.ratios import lower, times
from toldmeans.rows import pair_of
from toldmeans.shares import Told
from toldmeans.texts import behind_spaces, ratio_at
from toldmeans.words import behind_gap, behind_words, name_at, run_end, word_at

BITS = 12


class Promise:
    """A word for what is promised, the name in it, None for none, and its ratios in order."""

    def __init__(self, word, name, numbers):
        self.word = word
        self.name = name
        self.numbers = numbers


def order_at(text, at):
    """The ratios of a promise about an order, and the index behind it."""
    numbers = []
    for words in ((), ("over",), ("under",), ("at", "most")):
        number, at = ratio_at(text, behind_gap(text, behind_words(text, at, words)))
        numbers.append(pair_of(number))
    return numbers, at


def promise_at(text, at):
    """The Promise that begins there, and the index behind it."""
    end = run_end(text, at)
    if text[at:end] == "some":
        return Promise("some", None, []), behind_words(text, end, ("share", "fits"))
    if text[at:end] == "order":
        numbers, end = order_at(text, end)
        return Promise("order", None, numbers), end
    name, end = name_at(text, at)
    word, end = word_at(text, behind_gap(text, end), ("at", "says"))
    if word == "says":
        return Promise("nothing", name, []), behind_words(text, end, ("nothing",))
    side, end = word_at(text, behind_gap(text, end), ("least", "most"))
    number, end = ratio_at(text, behind_gap(text, end))
    return Promise(side, name, [pair_of(number)]), end


def promise_of(text):
    """The Promise that a text is."""
    if not isinstance(text, str):
        raise BadText(0)
    promise, at = promise_at(text, behind_spaces(text, 0))
    at = behind_spaces(text, at)
    if at < len(text):
        raise BadText(at + 1)
    return promise


def renamed(text, name, new):
    """The text of a promise with another name where it has this one."""
    if promise_of(text).name != name:
        return text
    at = behind_spaces(text, 0)
    return text[:at] + new + text[at + len(name):]


def rows_of(items):
    """The Tolds of the told items, in order."""
    return [item.thing for item in items if isinstance(item.thing, Told)]


def function_named(items, name):
    """The function with a name."""
    item = item_named(items, name)
    if item is None or isinstance(item.thing, Told):
        raise NoName(name)
    return item.thing


def told_named(items, name):
    """The item with a name, which is a told one."""
    item = item_named(items, name)
    if item is None or not isinstance(item.thing, Told):
        raise NoName(name)
    return item


def are_lines(function, rows):
    """Whether a function and all functions of rows are lines."""
    return function.is_line() and all([row.function.is_line() for row in rows])


def too_great(found, most):
    """Whether an answer shows that a mean may be above a number."""
    if isinstance(found, Top):
        return lower(most, found.mean)
    return isinstance(found, Above) and lower(most, found.upper)


def too_small(found, least):
    """Whether an answer for a least mean shows that a mean may be below a number."""
    return isinstance(found, Bottom) and lower(found.mean, least)


def answer(found, wrong):
    """Whether a promise is kept, and the witness if it is not."""
    return (False, found) if wrong else (True, None)


def ask_most(items, promise):
    """The answer for `F at most T`."""
    function = function_named(items, promise.name)
    rows = rows_of(items)
    if are_lines(function, rows):
        found = line_greatest(rows, function)
    else:
        found = greatest_mean(function, rows, BITS)
    return answer(found, too_great(found, promise.numbers[0]))


def ask_least(items, promise):
    """The answer for `F at least T`."""
    function = function_named(items, promise.name)
    rows = rows_of(items)
    if are_lines(function, rows):
        found = line_least(rows, function)
        return answer(found, too_small(found, promise.numbers[0]))
    found = greatest_mean(scaled(function, -1), rows, BITS)
    return answer(found, too_great(found, times(-1, promise.numbers[0])))


def ask_nothing(items, promise):
    """The answer for `N says nothing`."""
    item = told_named(items, promise.name)
    rows = rows_of([other for other in items if other.name != promise.name])
    if item.thing.most is not None:
        found = line_greatest(rows, item.thing.function)
        if too_great(found, item.thing.most):
            return answer(found, True)
    if item.thing.least is not None:
        found = line_least(rows, item.thing.function)
        return answer(found, too_small(found, item.thing.least))
    return answer(None, False)


def some_rows(items):
    """The rows, at least one."""
    rows = rows_of(items)
    if len(rows) == 0:
        raise Unlike("rows")
    return rows


def ask_some(items, promise):
    """The answer for `some share fits`."""
    found = any_fit(some_rows(items), BITS)
    return answer(found, not isinstance(found, Fits))


def ask_order(items, promise):
    """The answer for `order Q over A under B at most T`."""
    rows = some_rows(items)
    order, over, under, most = promise.numbers
    knots = rows[0].function.knots
    found = line_greatest(rows, cost_line(knots[0], knots[-1], order, over, under))
    return answer(found, too_great(found, most))


ASKS = {"most": ask_most, "least": ask_least, "nothing": ask_nothing, "some": ask_some, "order": ask_order}


def asked_of(items, text):
    """The pair of whether a promise is kept by items, and of the witness, None if it is."""
    promise = promise_of(text)
    action = ASKS[promise.word]
    return action(items, promise)
