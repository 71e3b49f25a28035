"""Texts of polynomials and of broken functions.

The readers take a text and the index of a character, and tell what begins there and the index of the character
behind it. Each goes on as far as some right text can begin, so the first character that does not fit is the wrong one.
"""

from toldmeans.broken import Broken, greater_number, knot_limits
from toldmeans.errors import BadText
from toldmeans.polys import Poly
from toldmeans.ratios import plus, ratio_text, times
from toldmeans.rows import ascends

DIGITS = ("0", "1", "2", "3", "4", "5", "6", "7", "8", "9")
MOST_DIGITS = 30
MOST_POWER = 12


def behind_spaces(text, at):
    """The index of the first character from at on that is no space."""
    while text[at:at + 1] == " ":
        at = at + 1
    return at


def behind_sign(text, at, sign):
    """The index behind a sign, and behind the spaces that follow it."""
    if text[at:at + 1] != sign:
        raise BadText(at + 1)
    return behind_spaces(text, at + 1)


def whole_at(text, at, first):
    """A WHOLE that begins with a digit from first on."""
    if text[at:at + 1] not in DIGITS[first:]:
        raise BadText(at + 1)
    end = at + 1
    if text[at] != "0":
        while end < at + MOST_DIGITS and text[end:end + 1] in DIGITS:
            end = end + 1
    return int(text[at:end]), end


def number_at(text, at):
    """A NUMBER, as a pair."""
    top, end = whole_at(text, at, 0)
    if text[end:end + 1] != "/":
        return (top, 1), end
    bottom, end = whole_at(text, end + 1, 1)
    return (top, bottom), end


def ratio_at(text, at):
    """A RATIO, as a pair."""
    if text[at:at + 1] == "-":
        number, end = number_at(text, at + 1)
        return times(-1, number), end
    return number_at(text, at)


def power_at(text, at):
    """A POWER, as its integer."""
    if text[at:at + 1] != "x":
        raise BadText(at + 1)
    if text[at + 1:at + 2] != "^":
        return 1, at + 1
    power, end = whole_at(text, at + 2, 0)
    # No power begins with digits that stand for too much, so the last ones of them are wrong.
    while power > MOST_POWER:
        power = power // 10
        end = end - 1
    return power, end


def term_at(text, at):
    """The number and the power of a TERM."""
    if text[at:at + 1] == "x":
        power, end = power_at(text, at)
        return (1, 1), power, end
    number, end = number_at(text, at)
    star = behind_spaces(text, end)
    if text[star:star + 1] != "*":
        return number, 0, end
    power, end = power_at(text, behind_spaces(text, star + 1))
    return number, power, end


def poly_at(text, at):
    """The Poly whose text begins there, with the spaces at both ends."""
    numbers = [(0, 1) for _ in range(MOST_POWER + 1)]
    factor = 1
    at = behind_spaces(text, at)
    if text[at:at + 1] == "-":
        factor = -1
        at = behind_spaces(text, at + 1)
    while True:
        number, power, at = term_at(text, at)
        numbers[power] = plus(numbers[power], times(factor, number))
        at = behind_spaces(text, at)
        if text[at:at + 1] not in ("+", "-"):
            return Poly(numbers), at
        factor = 1 if text[at] == "+" else -1
        at = behind_spaces(text, at + 1)


def knot_at(text, at):
    """A KNOT and the number told at it, None if there is none, with the spaces behind them."""
    knot, end = ratio_at(text, at)
    end = behind_spaces(text, end)
    if text[end:end + 1] != "=":
        return knot, None, end
    number, end = ratio_at(text, behind_spaces(text, end + 1))
    return knot, number, behind_spaces(text, end)


def poly_of(text):
    """The Poly that a text stands for."""
    if not isinstance(text, str):
        raise BadText(0)
    poly, at = poly_at(text, 0)
    if at < len(text):
        raise BadText(at + 1)
    return poly


def pieces_at(text, at):
    """The knots, the Polys and the told numbers, None for none, of the text of a function from there to the end."""
    knot, number, at = knot_at(text, behind_spaces(text, at))
    knots = [knot]
    polys = []
    numbers = [number]
    while len(polys) == 0 or at < len(text):
        poly, at = poly_at(text, behind_sign(text, at, ":"))
        knot, number, at = knot_at(text, behind_sign(text, at, ":"))
        knots.append(knot)
        polys.append(poly)
        numbers.append(number)
    return knots, polys, numbers


def with_usual(knots, polys, numbers):
    """The Broken with the usual numbers at the knots where none are told."""
    f = Broken(knots, polys, [0 for _ in knots])
    usual = [usual_number(f, index) for index in range(len(knots))]
    return Broken(knots, polys, [known if told is None else told for known, told in zip(usual, numbers)])


def broken_of(text):
    """The Broken that a text stands for."""
    if not isinstance(text, str):
        raise BadText(0)
    knots, polys, numbers = pieces_at(text, 0)
    if not ascends(knots):
        raise BadText(1)
    return with_usual(knots, polys, numbers)


def usual_number(f, index):
    """The greater one of the limits at the knot with an index."""
    left, right = knot_limits(f, index)
    if left is None:
        return right
    if right is None:
        return left
    return greater_number(left, right)


def term_text(number, power):
    """The text of a number from 0 on times a power."""
    if power == 0:
        return ratio_text(number)
    name = "x" if power == 1 else f"x^{power}"
    if number == (1, 1):
        return name
    return f"{ratio_text(number)}*{name}"


def poly_text(poly):
    """The text of a Poly."""
    text = ""
    for power, (top, bottom) in enumerate(poly.numbers):
        term = term_text((abs(top), bottom), power)
        if top != 0 and text == "":
            text = "-" + term if top < 0 else term
        elif top != 0:
            text = f"{text} - {term}" if top < 0 else f"{text} + {term}"
    return text if text != "" else "0"


def knot_text(f, index):
    """The text of a knot, with the number there unless it is the greater one of the limits."""
    text = ratio_text(f.knots[index])
    if f.at[index] == usual_number(f, index):
        return text
    return f"{text} = {ratio_text(f.at[index])}"


def broken_text(f):
    """The text of a Broken."""
    parts = [knot_text(f, 0)]
    for index, poly in enumerate(f.polys):
        parts.append(poly_text(poly))
        parts.append(knot_text(f, index + 1))
    return " : ".join(parts)
