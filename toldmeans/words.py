"""Words and names in texts, read as texts.py reads polynomials: from an index on, as far as some right text goes."""

from toldmeans.errors import BadText
from toldmeans.texts import behind_spaces

MOST_SIGNS = 8
NO_NAMES = ("x", "function", "told", "from", "to", "at", "least", "most", "some", "share", "fits", "says", "nothing",
            "order", "over", "under")


def is_letter(sign):
    """Whether a text is one letter a to z."""
    return len(sign) == 1 and "a" <= sign <= "z"


def is_digit(sign):
    """Whether a text is one digit 0 to 9."""
    return len(sign) == 1 and "0" <= sign <= "9"


def run_end(text, at):
    """The index behind the letters and digits that follow from at on."""
    while is_letter(text[at:at + 1]) or is_digit(text[at:at + 1]):
        at = at + 1
    return at


def name_at(text, at):
    """A name, and the index behind it."""
    if not is_letter(text[at:at + 1]):
        raise BadText(at + 1)
    end = run_end(text, at)
    run = text[at:end]
    # A name can go on behind each of the other words, but this one has as many letters as a name can have.
    if run.startswith("function"):
        raise BadText(at + MOST_SIGNS)
    if len(run) > MOST_SIGNS:
        raise BadText(at + MOST_SIGNS + 1)
    if run in NO_NAMES:
        raise BadText(end + 1)
    return run, end


def is_name(value):
    """Whether a value is a name."""
    if not isinstance(value, str) or not is_letter(value[:1]) or len(value) > MOST_SIGNS:
        return False
    return run_end(value, 0) == len(value) and value not in NO_NAMES


def shared_signs(text, at, word):
    """How many signs of a word stand at at."""
    many = 0
    while many < len(word) and text[at + many:at + many + 1] == word[many]:
        many = many + 1
    return many


def word_at(text, at, words):
    """The one of some words that stands there, and the index behind it."""
    most = 0
    for word in words:
        many = shared_signs(text, at, word)
        if many == len(word):
            return word, at + many
        most = max(most, many)
    raise BadText(at + most + 1)


def behind_gap(text, at):
    """The index behind one or more spaces."""
    if text[at:at + 1] != " ":
        raise BadText(at + 1)
    return behind_spaces(text, at)


def behind_words(text, at, words):
    """The index behind words that follow, each with spaces ahead of it."""
    for word in words:
        _, at = word_at(text, behind_gap(text, at), (word,))
    return at
