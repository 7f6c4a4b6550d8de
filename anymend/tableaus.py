"""Weights of the greatest worth within bounds, exactly, by the simplex method.

What may be weighted is told one by one; of what bounds leave, the prices
of the bounds tell which ones are worth it.
"""


class Tableau:
    """The weights so far, the prices of the bounds and what all this is worth.

    All numbers of a tableau are integers over the bottom, one for all.
    Where the bounds are 0, rows are compared number by number, so that no
    tableau comes again.
    """

    def __init__(self, bounds):
        many = len(bounds)
        self.bottom = 1
        # The worth, then the price of each bound.
        self.head = [0] * (many + 1)
        # In each row the weight of what stands there (of what is left of a bound, where it is None),
        # then what it changes by for each bound.
        self.rows = [[bound, *unit(many, k)] for k, bound in enumerate(bounds)]
        self.weighted = [None] * many

    def prices(self):
        """The prices of the bounds, over the bottom."""
        return self.head[1:]

    def weights(self):
        """The pairs of a weight above 0, over the bottom, and what has it."""
        pairs = [(row[0], what) for row, what in zip(self.rows, self.weighted)]
        return [(weight, what) for weight, what in pairs if what is not None and weight > 0]

    def enter(self, uses, worth, what):
        """Weight what uses so much of each bound, and is worth more than the prices of all this."""
        column = [product_of(row[1:], uses) for row in self.rows]
        at = least_ratio(self.rows, column)
        drop = product_of(self.prices(), uses) - worth * self.bottom
        pivot = self.rows[at]
        self.head = self.cleared(self.head, drop, pivot, column[at])
        self.rows = [
            pivot if k == at else self.cleared(row, column[k], pivot, column[at])
            for k, row in enumerate(self.rows)]
        self.bottom = column[at]
        self.weighted[at] = what

    def cleared(self, row, factor, pivot, scale):
        """A row over the bottom that is to come, less what takes the factor out of it."""
        # The numbers are determinants, so the old bottom divides them.
        return [(number * scale - factor * other) // self.bottom for number, other in zip(row, pivot)]


def unit(many, at):
    """A row of zeros with a 1 at one place."""
    return [1 if k == at else 0 for k in range(many)]


def product_of(row, other):
    """The sum of the products of two rows, number by number."""
    return sum([number * factor for number, factor in zip(row, other)])


def least_ratio(rows, column):
    """Which row is least when it is divided by its number in a column, among those with one above 0."""
    best = None
    for k, factor in enumerate(column):
        if factor > 0 and (best is None or is_less(rows[k], factor, rows[best], column[best])):
            best = k
    return best


def is_less(row, factor, other, divisor):
    """Whether a row divided by a factor is less than another one by a divisor, number by number."""
    return [number * divisor for number in row] < [number * factor for number in other]
