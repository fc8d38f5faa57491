"""How often a polynomial may be added to another one that is from 0 on from 0 to 1, so that the sum is so, too."""

from flowpapers.corner_rows import corner_row, halves
from flowpapers.polys import Poly
from flowpapers.stretches import Split, never_below
from flowpapers.wholes import top_power, whole_rows

# How often a stretch is halved before the zeros of the polynomial are parted from one another.
HALVINGS = 32


def fewer_steps(poly, other, most, bits):
    """The greatest integer, from 0 to most, such that poly and so many times other / 2 ** bits are from 0 on.

    poly is from 0 on itself. None stands for an integer above all others, for most and in the answer.
    """
    (tops, others), _ = whole_rows((poly.numbers, other.numbers))
    many = max(len(tops), len(others))
    start = [number << bits for number in tops] + [0] * (many - len(tops))
    step = others + [0] * (many - len(others))
    if _is_from_0(step) or (most is not None and _holds(start, step, most)):
        return most
    # It holds for low, and not for high: the integers for which it holds have no gap between them.
    low, high = 0, most
    while high is None:
        further = 2 * low + 1
        if _holds(start, step, further):
            low = further
        else:
            high = further
    while high - low > 1:
        middle = (low + high) // 2
        if _holds(start, step, middle):
            low = middle
        else:
            high = middle
    return low


def _holds(start, step, many):
    return _is_from_0([number + many * further for number, further in zip(start, step)])


def _is_from_0(numbers):
    """Whether the polynomial with this row of integers is from 0 on at all points from 0 to 1."""
    tops = numbers[:top_power(numbers) + 1]
    todo = [(corner_row(tops), 0)]
    while todo:
        row, depth = todo.pop()
        if row[0] < 0 or row[-1] < 0:
            return False
        if min(row) < 0:
            if depth == HALVINGS:
                return isinstance(never_below(Poly(tops)), Split)
            lows, highs = halves(row, len(row) - 1)
            todo.append((highs, depth + 1))
            todo.append((lows, depth + 1))
    return True
