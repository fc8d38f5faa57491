"""How often a field turns along a closed row of sides, and where it rests on one."""

from flowpapers.polys import common, divided
from flowpapers.signs import zeros_of
from flowpapers.stretches import between, zeros
from flowpapers.wholes import whole_row


def first_rest(u, v, bits):
    """The ends (low, high) of the least zero from 0 to 1 of both Polys, as zeros tells it; None if there is none."""
    shared = common(u, v)
    if shared.degree() == -1:
        return (0, 1), (0, 1)
    if shared.degree() == 0:
        return None
    found = zeros(shared, bits)
    return found[0][:2] if found else None


def crossings(u, v):
    """How often (u, v) comes from below to the line of v = 0 and u > 0, less how often it goes below from there.

    Both Polys have no common zero from 0 to 1. Summed up along a closed row this is how often the field turns.
    """
    if v.degree() < 1:
        return 0
    # Where v is 0 at an end, the side ahead or behind counts what happens beyond it.
    tops, _ = whole_row(divided(v, common(v, v.slope()))[0].numbers)
    others, _ = whole_row(u.numbers)
    signs = between(v)
    found, passed = 0, 0
    for zero in zeros_of(tops):
        is_right = zero.sign_of(others) > 0
        if not _is_at(zero, 0):
            found = found + (1 if is_right and signs[passed] < 0 else 0)
            passed = passed + 1
        if not _is_at(zero, 1):
            found = found - (1 if is_right and signs[passed] < 0 else 0)
    return found


def _is_at(zero, end):
    """Whether a zero is this end of the stretch from 0 to 1."""
    k, m, is_exact = zero.spot
    return is_exact and k == end << m
