"""Texts of items: fields, planes and rooms, one a line."""

from flowpapers.errors import BadLine, BadRow, BadText
from flowpapers.fields import Field
from flowpapers.planes import Plane, plane_of, plane_text
from flowpapers.ratios import ratio_text
from flowpapers.rooms import Room
from flowpapers.terms import behind_spaces, sign_at
from flowpapers.words import behind_gap, behind_sign, behind_word, name_from, ratio_from, word_from

KINDS = ("field", "plane", "room")


def items_of(text):
    """The pairs (name, item) of a text, in order; BadLine(line, column), BadLine(0, 0) for what is no string."""
    if not isinstance(text, str):
        raise BadLine(0, 0)
    found = {}
    for number, line in enumerate(text.split("\n")):
        try:
            pair = _item_of(line, found)
        except BadText as error:
            raise BadLine(number + 1, error.column)
        if pair is not None:
            found[pair[0]] = pair[1]
    return tuple([(name, found[name]) for name in found])


def line_of(name, item):
    """The line of an item, without its end."""
    if isinstance(item, Field):
        return f"field {name} = {plane_text(item.p)} , {plane_text(item.q)}"
    if isinstance(item, Plane):
        return f"plane {name} = {plane_text(item)}"
    rows = " hole ".join([_row_text(row) for row in (item.corners, *item.holes)])
    return f"room {name} = {rows}"


def _item_of(line, earlier):
    """The pair (name, item) of a line, None for a line of spaces alone; BadText(column)."""
    start = behind_spaces(line, 0)
    if start == len(line):
        return None
    word, end = word_from(KINDS, line, start)
    start = behind_gap(line, end)
    name, end = name_from(line, start)
    if name in earlier:
        raise BadText(start + 1)
    start = behind_word("=", line, behind_spaces(line, end))
    if word == "field":
        return name, _field_from(line, start)
    if word == "plane":
        return name, _plane_between(line, start, len(line))
    return name, _room_from(line, start)


def _field_from(line, start):
    """The field whose texts begin here."""
    comma = line.find(",", start)
    if comma == -1:
        _plane_between(line, start, len(line))
        raise BadText(len(line) + 1)
    p = _plane_between(line, start, comma)
    return Field(p, _plane_between(line, comma + 1, len(line)))


def _plane_between(line, start, end):
    """The Plane of a part of a line."""
    try:
        return plane_of(line[start:end])
    except BadText as error:
        raise BadText(start + error.column)


def _room_from(line, start):
    """The room whose corners begin here."""
    rows = []
    row, at = _corners_from(line, start)
    rows.append(row)
    while at < len(line):
        row, at = _corners_from(line, behind_word("hole", line, at))
        rows.append(row)
    try:
        return Room(rows[0], rows[1:])
    except BadRow:
        raise BadText(len(line) + 1)


def _corners_from(line, start):
    """Three or more places that begin here, and where the spaces behind them end."""
    found = []
    at = behind_spaces(line, start)
    while len(found) < 3 or sign_at(line, at) == "(":
        x, at = ratio_from(line, behind_sign("(", line, at))
        y, at = ratio_from(line, behind_sign(",", line, at))
        at = behind_sign(")", line, at)
        found.append((x, y))
    return found, at


def _row_text(row):
    return " ".join([f"({ratio_text(x)}, {ratio_text(y)})" for x, y in row])
