"""Bases of spans that grow row by row, modulo a prime that is known to be right.

A basis is a list of pairs of a column and a row with 1 in this column,
in which all later rows have 0.
"""

from anymend.fields import cleared, scaled


def extended(basis, rows, prime):
    """A basis of the span of a basis and some rows more; their numbers are from 0 to prime - 1."""
    found = list(basis)
    for row in rows:
        if len(found) == len(row):
            break
        pivot = pivot_of(found, row, prime)
        if pivot is not None:
            found.append(pivot)
    return found


def pivot_of(basis, row, prime):
    """The pair that a row adds to a basis, None if the row is in its span."""
    rest = rest_of(basis, row, prime)
    column = first_column(rest)
    return None if column is None else (column, scaled(rest, column, prime))


def rest_of(basis, row, prime):
    """What is left of a row when it is cleared in all columns of a basis; only zeros if it is in the span."""
    rest = row
    for column, pivot in basis:
        rest = cleared(rest, pivot, column, prime)
    return rest


def first_column(row):
    """The first column in which a row has a number other than 0, or None."""
    for column, number in enumerate(row):
        if number != 0:
            return column
    return None
