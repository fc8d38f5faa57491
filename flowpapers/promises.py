"""Promises: what they name, and whether they are kept."""

from flowpapers.errors import BadText, NoName
from flowpapers.fields import Field, slope_along
from flowpapers.norests import leaves_within
from flowpapers.planes import Plane
from flowpapers.ratios import lower
from flowpapers.rests import rests
from flowpapers.rooms import Kept, Room, Turn, kept, turning
from flowpapers.terms import behind_spaces
from flowpapers.triangles import Cover, never_below_in, triangles
from flowpapers.words import behind_gap, behind_word, integer_from, name_from, ratio_from, word_from

# F, R and P are names of fields, rooms and planes, Z an integer, N one from 0 on, T a ratio.
FORMS = {
    "keeps": ("R", "keeps", "all", "of", "F"),
    "turns": ("F", "turns", "Z", "times", "round", "R"),
    "has": ("F", "has", "N", "rests", "in", "R"),
    "leaves": ("F", "leaves", "R", "by", "P", "in", "T"),
    "never": ("P", "never", "rises", "in", "R", "by", "F"),
}
WORDS = ("keeps", "turns", "has", "leaves", "never")
NAMED = ("F", "R", "P")
DIGITS = 20


def parts_of(promise):
    """The word of a promise and its rows (letter, value, start, end) in order; BadText(column)."""
    if not isinstance(promise, str):
        raise BadText(0)
    start = behind_spaces(promise, 0)
    name, at = name_from(promise, start)
    word, end = word_from(WORDS, promise, behind_gap(promise, at))
    form = FORMS[word]
    found = [(form[0], name, start, at)]
    for part in form[2:]:
        start = behind_gap(promise, end)
        value, end = _part_from(part, promise, start)
        if part != value:
            found.append((part, value, start, end))
    if behind_spaces(promise, end) < len(promise):
        raise BadText(behind_spaces(promise, end) + 1)
    return word, found


def names_in(promise):
    """The names in a promise, in order."""
    return [part[1] for part in parts_of(promise)[1] if part[0] in NAMED]


def named_anew(promise, name, new):
    """The promise with a new name in the place of a name."""
    found, at = "", 0
    for letter, value, start, end in parts_of(promise)[1]:
        if letter in NAMED and value == name:
            found = found + promise[at:start] + new
            at = end
    return found + promise[at:]


def asked(promise, entries):
    """(True, None) if a promise is kept with these pairs (name, item), otherwise (False, witness).

    BadText(column), NoName(name), and the errors of the function that is asked.
    """
    word, parts = parts_of(promise)
    found = {}
    for part in parts:
        letter, value = part[:2]
        found[letter] = _item_named(letter, value, entries) if letter in NAMED else value
    question = QUESTIONS[word]
    return question(found)


def _part_from(part, promise, start):
    """The value of a part of a form that begins here, a word for itself, and where it ends."""
    if part in NAMED:
        return name_from(promise, start)
    if part == "T":
        return ratio_from(promise, start)
    if part in ("Z", "N"):
        return integer_from(promise, start, part == "Z", DIGITS)
    return part, behind_word(part, promise, start)


def _item_named(letter, name, entries):
    """The item of the kind of a letter with this name; NoName(name) if there is none."""
    for other, item in entries:
        if other == name and _is_of(letter, item):
            return item
    raise NoName(name)


def _is_of(letter, item):
    """Whether an item is of the kind of a letter."""
    if letter == "F":
        return isinstance(item, Field)
    return isinstance(item, Room) if letter == "R" else isinstance(item, Plane)


def _keeps(found):
    told = kept(found["F"], found["R"])
    return (True, None) if isinstance(told, Kept) else (False, told)


def _turns(found):
    room = found["R"]
    told = turning(found["F"], [start for start, _ in room.sides[:len(room.corners)]], 20)
    is_so = isinstance(told, Turn) and told.number == found["Z"]
    return (True, None) if is_so else (False, told)


def _has(found):
    many = len(rests(found["F"], found["R"], 20))
    return (True, None) if many == found["N"] else (False, many)


def _leaves(found):
    trees = [()] * len(triangles(found["R"]))
    time = leaves_within(found["F"], found["R"], trees, found["P"])
    if time is None:
        return False, ()
    return (False, (time,)) if lower(found["T"], time) else (True, None)


def _never(found):
    told = never_below_in(-slope_along(found["F"], found["P"]), found["R"], 12)
    return (True, None) if isinstance(told, Cover) else (False, told)


QUESTIONS = {"keeps": _keeps, "turns": _turns, "has": _has, "leaves": _leaves, "never": _never}
