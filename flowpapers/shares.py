"""Shares from 0 on of rows of integers, of the least cost, by exact turns of a table.

A *table* has, for each of its places, a column that is in use, and the row (share, numbers) of integers, all to be
divided by one integer below: the share of this column, and its row of the inverse of the columns in use.
"""

# About so many bits of each number are looked at to find out which column to take into use.
ROUGH = 60


class Table:
    """Columns of integers with costs, and which of them are in use."""

    def __init__(self, columns, costs, used, values):
        # The columns in use ahead of all turns are those of ones and zeros, in order.
        many = len(values)
        self.columns = columns
        self.costs = costs
        self.used = list(used)
        self.below = 1
        self.rows = [[value] + [1 if k == at else 0 for k in range(many)] for at, value in enumerate(values)]
        full = [[cost] + list(column) for cost, column in zip(costs, columns)]
        # Places with long numbers have low prices: with these shifts all of them count alike.
        self.sizes = [max([abs(column[at]) for column in full]).bit_length() for at in range(many + 1)]
        self.rough = [_rough(column, [-size for size in self.sizes]) for column in full]

    def prices(self):
        """The price of each place, times below: at these prices the columns in use are worth their costs."""
        many = len(self.rows)
        costs = [self.costs[column] for column in self.used]
        return [sum([cost * row[at + 1] for cost, row in zip(costs, self.rows)]) for at in range(many)]

    def cheaper(self, many):
        """The index of one of the first columns that costs less than it is worth, None if there is none."""
        scale = [self.below] + [-price for price in self.prices()]
        rough = _rough(scale, self.sizes)
        gains = [sum([one * other for one, other in zip(rough, column)]) for column in self.rough[:many]]
        # So far may rough sums be off.
        slack = len(scale) << (ROUGH + 2)
        for gain, at in sorted([(gain, at) for at, gain in enumerate(gains) if gain < slack]):
            if gain < -slack or _gain(scale, self.costs[at], self.columns[at]) < 0:
                return at
        return None

    def weights(self, column):
        """How much of each column in use makes this column, times below."""
        return [
            sum([one * other for one, other in zip(row[1:], self.columns[column])])
            for row in self.rows
        ]

    def take(self, column, weights):
        """Takes a column into use, instead of one of weight above 0 whose share comes to 0 first.

        Of several ones that whose whole row is the least one, so that no table comes twice. False if there is none.
        """
        place = None
        for at, weight in enumerate(weights):
            if weight > 0 and (place is None or _is_less(self.rows[at], weight, self.rows[place], weights[place])):
                place = at
        if place is None:
            return False
        turned, weight = self.rows[place], weights[place]
        self.rows = [
            row if at == place else self._turned(row, weights[at], turned, weight) for at, row in enumerate(self.rows)
        ]
        self.used[place] = column
        self.below = weight
        return True

    def _turned(self, row, part, turned, weight):
        """A row less so much of the turned one that nothing of the new column is left in it."""
        return [(number * weight - part * further) // self.below for number, further in zip(row, turned)]


def _gain(scale, cost, column):
    """What a column costs more than it is worth, times below."""
    return scale[0] * cost + sum([price * number for price, number in zip(scale[1:], column)])


def _is_less(row, weight, other, other_weight):
    """Whether a row divided by its weight comes ahead of another one, number by number."""
    for number, further in zip(row, other):
        if number * other_weight != further * weight:
            return number * other_weight < further * weight
    return False


def _rough(numbers, sizes):
    """Integers times 2 to the powers of sizes, all divided by such a power of 2 that the greatest has ROUGH bits."""
    most = max([abs(number).bit_length() + size for number, size in zip(numbers, sizes) if number != 0], default=0)
    return [_shifted(number, size + ROUGH - most) for number, size in zip(numbers, sizes)]


def _shifted(number, bits):
    return number << bits if bits > 0 else number >> -bits
