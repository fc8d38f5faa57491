"""Texts of planes, read sign by sign: each sign is taken only if some text goes on behind it."""

from flowpapers.errors import BadText

DIGITS = "0123456789"
LONGEST = 30


def terms_of(text):
    """The rows (i, j, (top, bottom)) of a text of a plane, one for each of its terms; BadText(column)."""
    found = []
    sign, at = _first_sign(text, behind_spaces(text, 0))
    while True:
        (i, j, (top, bottom)), at = _term_from(text, at)
        found.append((i, j, (sign * top, bottom)))
        at = behind_spaces(text, at)
        if at == len(text):
            return found
        if text[at] not in "+-":
            raise BadText(at + 1)
        sign = -1 if text[at] == "-" else 1
        at = behind_spaces(text, at + 1)


def sign_at(text, at):
    """The sign with this index, the empty text behind the end."""
    return text[at:at + 1]


def is_digit(text, at):
    return at < len(text) and text[at] in DIGITS


def behind_spaces(text, at):
    while sign_at(text, at) == " ":
        at = at + 1
    return at


def _first_sign(text, at):
    """The sign of the first term, and where this term begins."""
    if sign_at(text, at) == "-":
        return -1, behind_spaces(text, at + 1)
    return 1, at


def _term_from(text, at):
    """The row of the term that begins here, and where it ends."""
    if not is_digit(text, at):
        i, j, at = _letters_from(text, at)
        return (i, j, (1, 1)), at
    number, at = number_from(text, at)
    star = behind_spaces(text, at)
    if sign_at(text, star) != "*":
        return (0, 0, number), at
    i, j, at = _letters_from(text, behind_spaces(text, star + 1))
    return (i, j, number), at


def _letters_from(text, at):
    """The powers of x and of y that begin here, and where they end."""
    if sign_at(text, at) != "x":
        j, at = _power_from("y", text, at)
        return 0, j, at
    i, at = _power_from("x", text, at)
    star = behind_spaces(text, at)
    if sign_at(text, star) != "*":
        return i, 0, at
    j, at = _power_from("y", text, behind_spaces(text, star + 1))
    return i, j, at


def _power_from(letter, text, at):
    """The power of this letter that begins here, and where it ends."""
    if sign_at(text, at) != letter:
        raise BadText(at + 1)
    if sign_at(text, at + 1) != "^":
        return 1, at + 1
    at = at + 2
    if not is_digit(text, at):
        raise BadText(at + 1)
    # The only powers of two digits are 10, 11 and 12.
    if text[at] == "1" and is_digit(text, at + 1) and text[at + 1] in "012":
        return int(text[at:at + 2]), at + 2
    return int(text[at]), at + 1


def number_from(text, at):
    """The number that begins with a digit here, and where it ends."""
    top, at = whole_from(text, at, LONGEST)
    if sign_at(text, at) != "/":
        return (top, 1), at
    at = at + 1
    # No bottom begins with 0: it is other than 0, and no further digit may stand behind a first 0.
    if not is_digit(text, at) or text[at] == "0":
        raise BadText(at + 1)
    bottom, at = whole_from(text, at, LONGEST)
    return (top, bottom), at


def whole_from(text, at, longest):
    """The whole number that begins with a digit here, of at most so many digits, and where it ends."""
    if text[at] == "0":
        return 0, at + 1
    end = at
    while is_digit(text, end) and end - at < longest:
        end = end + 1
    return int(text[at:end]), end
