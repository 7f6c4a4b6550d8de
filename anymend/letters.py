"""Letters that are chosen one by one, so that each of many spans gets all that it can.

A letter is chosen in the span of its source, outside of each other span
that does not hold the whole source yet: so all of these grow by it. Its
multiples of a basis of the source are 1, t, t * t, .. for one t, and each
span bars fewer t than the source has dimensions. So below a prime above
the bound some t is left.
"""

from anymend.spans import extended, pivot_of


def drawn(bases, source, most, prime):
    """At most so many letters in the span of a source, and the bases with these letters.

    No more letters are chosen than are needed until all bases hold the source.
    """
    own = [row for _, row in extended([], source, prime)]
    goals = [len(extended(basis, own, prime)) for basis in bases]
    found = list(bases)
    letters = []
    t = 0
    growing = growing_ones(found, goals)
    while len(letters) < most and len(growing) > 0:
        t, letter, pivots = letter_outside([found[k] for k in growing], own, t, prime)
        letters.append(letter)
        for k, pivot in zip(growing, pivots):
            found[k] = found[k] + [pivot]
        growing = growing_ones(found, goals)
    return letters, found


def growing_ones(bases, goals):
    """The numbers of the bases that have fewer rows than their goals."""
    return [k for k, goal in enumerate(goals) if len(bases[k]) < goal]


def letter_outside(bases, own, start, prime):
    """The first t from a start on whose letter is outside of all spans, this letter, and how it extends their bases."""
    for number in range(start, start + prime):
        t = number % prime
        letter = mixed(own, t, prime)
        pivots = pivots_outside(bases, letter, prime)
        if pivots is not None:
            break
    return t, letter, pivots


def mixed(rows, t, prime):
    """The sum of rows with the multiples 1, t, t * t, .."""
    total = rows[-1]
    for row in reversed(rows[:-1]):
        total = [(number * t + other) % prime for number, other in zip(total, row)]
    return total


def pivots_outside(bases, letter, prime):
    """What a letter adds to each basis, None if it is in the span of one of them."""
    pivots = []
    for basis in bases:
        pivot = pivot_of(basis, letter, prime)
        if pivot is None:
            return None
        pivots.append(pivot)
    return pivots
