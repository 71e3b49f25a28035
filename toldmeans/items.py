"""The items of a desk: functions and told means under names, and their texts."""

from toldmeans.errors import BadLine, BadText, MeanError
from toldmeans.ratios import ratio_text
from toldmeans.rows import ascends
from toldmeans.shares import Told
from toldmeans.texts import behind_sign, behind_spaces, broken_text, pieces_at, ratio_at, with_usual
from toldmeans.words import behind_gap, name_at, word_at


class Item:
    """A name, and the Broken or Told that has it."""

    def __init__(self, name, thing):
        self.name = name
        self.thing = thing


def bounds_at(line, at):
    """The least and the most, None for none, that stand behind the name of a told item, and the index behind them."""
    word, at = word_at(line, at, ("at", "from"))
    if word == "at":
        side, at = word_at(line, behind_gap(line, at), ("least", "most"))
        number, at = ratio_at(line, behind_gap(line, at))
        return (number, None, at) if side == "least" else (None, number, at)
    least, at = ratio_at(line, behind_gap(line, at))
    _, at = word_at(line, behind_gap(line, at), ("to",))
    most, at = ratio_at(line, behind_gap(line, at))
    return least, most, at


def told_thing(function, least, most, line):
    """The Told of a line, which is wrong behind its end if there is none."""
    try:
        return Told(function, least, most)
    except MeanError:
        raise BadText(len(line) + 1) from None


def item_of(line, names):
    """The Item of a line; names are those that are told already."""
    word, at = word_at(line, behind_spaces(line, 0), ("function", "told"))
    start = behind_gap(line, at)
    name, at = name_at(line, start)
    # All that can be wrong further on counts less than this.
    if name in names:
        raise BadText(start + 1)
    least = None
    most = None
    if word == "told":
        least, most, at = bounds_at(line, behind_gap(line, at))
    sign = behind_spaces(line, at)
    knots, polys, numbers = pieces_at(line, behind_sign(line, sign, "="))
    if not ascends(knots):
        raise BadText(sign + 2)
    function = with_usual(knots, polys, numbers)
    if word == "function":
        return Item(name, function)
    return Item(name, told_thing(function, least, most, line))


def items_of(text):
    """The Items of a text, in order."""
    if not isinstance(text, str):
        raise BadLine(0, 0)
    found = []
    for at, line in enumerate(text.split("\n")):
        if behind_spaces(line, 0) < len(line):
            names = [item.name for item in found]
            try:
                found.append(item_of(line, names))
            except BadText as error:
                raise BadLine(at + 1, error.column) from None
    return found


def line_of(item):
    """The line of an Item, with its line end."""
    thing = item.thing
    if not isinstance(thing, Told):
        return f"function {item.name} = {broken_text(thing)}\n"
    text = broken_text(thing.function)
    if thing.most is None:
        return f"told {item.name} at least {ratio_text(thing.least)} = {text}\n"
    if thing.least is None:
        return f"told {item.name} at most {ratio_text(thing.most)} = {text}\n"
    return f"told {item.name} from {ratio_text(thing.least)} to {ratio_text(thing.most)} = {text}\n"


def put_in(items, others):
    """Items with other ones in the places of those with their names, or behind the last one."""
    found = list(items)
    for item in others:
        names = [one.name for one in found]
        if item.name in names:
            found[names.index(item.name)] = item
        else:
            found.append(item)
    return tuple(found)


def item_named(items, name):
    """The Item with a name, None for any value that is none of the names."""
    if isinstance(name, str):
        for item in items:
            if item.name == name:
                return item
    return None
