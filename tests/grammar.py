"""Which texts are right, told by small matchers: each gives all ends of what may stand from a place on.

Each sign that is taken by any of them is marked; so the longest beginning of a text with which some right text
begins ends behind the last sign that is marked, since whatever is begun here can be ended.
"""

DIGITS = "0123456789"
LETTERS = "abcdefghijklmnopqrstuvwxyz"
NO_NAMES = "x y field room plane hole keeps all of in turns times round rests has never rises leaves by".split()


class Reader:

    def __init__(self, text):
        self.text = text
        self.reached = 0

    def sign(self, at, signs):
        if at < len(self.text) and self.text[at] in signs:
            self.reached = max(self.reached, at + 1)
            return True
        return False


def one_of(signs):
    return lambda reader, at: {at + 1} if reader.sign(at, signs) else set()


def row(*parts):
    def ends(reader, at):
        found = {at}
        for part in parts:
            found = set().union(*[part(reader, end) for end in found])
        return found
    return ends


def either(*parts):
    return lambda reader, at: set().union(*[part(reader, at) for part in parts])


def perhaps(part):
    return lambda reader, at: {at} | part(reader, at)


def often(part, least=0):
    def ends(reader, at):
        found, fresh = ({at} if least == 0 else set()), {at}
        for count in range(1, len(reader.text) + 2):
            fresh = set().union(*[part(reader, end) for end in fresh]) - (found if count > least else set())
            if count >= least:
                found |= fresh
            if not fresh:
                break
        return found
    return ends


def word(text):
    return row(*[one_of(sign) for sign in text])


def name(reader, at):
    end, found = at, set()
    while end - at < 8 and reader.sign(end, LETTERS if end == at else LETTERS + DIGITS):
        end += 1
    # It ends where no letter or digit follows.
    if end > at and not (end < len(reader.text) and reader.text[end] in LETTERS + DIGITS):
        if reader.text[at:end] not in NO_NAMES:
            found.add(end)
    return found


def whole(most):
    def ends(reader, at):
        if reader.sign(at, "0"):
            return {at + 1}
        end, found = at, set()
        while end - at < most and reader.sign(end, DIGITS if end > at else DIGITS[1:]):
            end += 1
            found.add(end)
        return found
    return ends


def other_than_0(reader, at):
    return whole(30)(reader, at) if reader.text[at:at + 1] != "0" else set()


SPACES = often(one_of(" "))
GAP = often(one_of(" "), 1)
NUMBER = row(whole(30), perhaps(row(one_of("/"), other_than_0)))
RATIO = row(perhaps(one_of("-")), NUMBER)


def sign(text):
    return row(SPACES, one_of(text), SPACES)


def power(letter):
    return row(one_of(letter), perhaps(row(one_of("^"), either(*[word(str(k)) for k in range(13)]))))


POWERS = either(power("x"), power("y"), row(power("x"), sign("*"), power("y")))
TERM = row(SPACES, either(NUMBER, POWERS, row(NUMBER, sign("*"), POWERS)), SPACES)
TEXT = row(perhaps(sign("-")), TERM, often(row(either(sign("+"), sign("-")), TERM)))
PLACE = row(sign("("), RATIO, sign(","), RATIO, sign(")"))
CORNERS = often(PLACE, 3)


def headed(kind, body):
    return row(SPACES, word(kind), GAP, name, sign("="), body, SPACES)


LINE = either(
    SPACES, headed("field", row(TEXT, one_of(","), TEXT)), headed("plane", TEXT),
    headed("room", row(CORNERS, often(row(SPACES, word("hole"), CORNERS)))),
)


def words(*parts):
    full = [SPACES]
    for k, part in enumerate(parts):
        full += ([GAP] if k else []) + [word(part) if isinstance(part, str) else part]
    return row(*full, SPACES)


PROMISE = either(
    words(name, "keeps", "all", "of", name), words(name, "turns", row(perhaps(one_of("-")), whole(20)), "times", "round", name),
    words(name, "has", whole(20), "rests", "in", name), words(name, "leaves", name, "by", name, "in", RATIO),
    words(name, "never", "rises", "in", name, "by", name),
)


def column_of(matcher, text):
    """None for a right text, otherwise one more than the number of signs of its longest right beginning."""
    reader = Reader(text)
    return None if len(text) in matcher(reader, 0) else reader.reached + 1


def changes_of(text, numbers, many):
    """Texts that differ from this one by a few signs."""
    signs = " ()=,-+*/^xyab019holekpstrin\t'%."
    for _ in range(many):
        found = text
        for _ in range(1 + next(numbers) % 2):
            at, kind = next(numbers) % (len(found) + 1), next(numbers) % 4
            sign_in = signs[next(numbers) % len(signs)]
            if kind == 0:
                found = found[:at] + found[at + 1:]
            elif kind == 1:
                found = found[:at] + sign_in + found[at:]
            elif kind == 2:
                found = found[:at] + sign_in + found[at + 1:]
            else:
                found = found[:at]
        yield found
