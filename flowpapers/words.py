"""Words, names and numbers in lines and promises, read sign by sign; BadText tells the first wrong sign."""

from flowpapers.errors import BadText
from flowpapers.terms import behind_spaces, is_digit, number_from, sign_at, whole_from

LETTERS = "abcdefghijklmnopqrstuvwxyz"
SIGNS = "abcdefghijklmnopqrstuvwxyz0123456789"
MOST_SIGNS = 8
NO_NAMES = (
    "x", "y", "field", "room", "plane", "hole", "keeps", "all", "of", "in", "turns", "times", "round", "rests", "has",
    "never", "rises", "leaves", "by",
)


def is_name(value):
    """Whether any value is a name."""
    if not isinstance(value, str) or not 1 <= len(value) <= MOST_SIGNS or value in NO_NAMES:
        return False
    return value[0] in LETTERS and all([sign in SIGNS for sign in value])


def name_from(text, at):
    """The name that begins here, and where it ends."""
    if at == len(text) or text[at] not in LETTERS:
        raise BadText(at + 1)
    end = at
    while end < len(text) and text[end] in SIGNS:
        if end - at == MOST_SIGNS:
            raise BadText(end + 1)
        end = end + 1
    # Words that are no names can go on to be some.
    if text[at:end] in NO_NAMES:
        raise BadText(end + 1)
    return text[at:end], end


def behind_word(word, text, at):
    """Where a word ends that must begin here."""
    for step, sign in enumerate(word):
        if sign_at(text, at + step) != sign:
            raise BadText(at + step + 1)
    return at + len(word)


def word_from(words, text, at):
    """The one of some words, with unlike first letters, that begins here, and where it ends."""
    for word in words:
        if sign_at(text, at) == word[0]:
            return word, behind_word(word, text, at)
    raise BadText(at + 1)


def behind_gap(text, at):
    """Where one or more spaces end that must begin here."""
    if sign_at(text, at) != " ":
        raise BadText(at + 1)
    return behind_spaces(text, at)


def behind_sign(sign, text, at):
    """Where a sign, perhaps with spaces ahead of it and behind it, ends."""
    return behind_spaces(text, behind_word(sign, text, behind_spaces(text, at)))


def ratio_from(text, at):
    """The ratio that begins here, perhaps with the sign -, and where it ends."""
    factor, start = (-1, at + 1) if sign_at(text, at) == "-" else (1, at)
    if not is_digit(text, start):
        raise BadText(start + 1)
    (top, bottom), end = number_from(text, start)
    return (factor * top, bottom), end


def integer_from(text, at, may_be_below, longest):
    """The integer of at most so many digits that begins here, perhaps with the sign -, and where it ends."""
    factor, start = (-1, at + 1) if may_be_below and sign_at(text, at) == "-" else (1, at)
    if not is_digit(text, start):
        raise BadText(start + 1)
    number, end = whole_from(text, start, longest)
    return factor * number, end
