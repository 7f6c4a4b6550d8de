"""Letters that are chosen one by one, so that each of many spans gets all that it can.

A letter is chosen in the span of its source, outside of each other span
that does not hold the whole source yet: so all of these grow by it. Its
multiples of a basis of the source are 1, t, t * t, .. for one t, and each
span bars fewer t than the source has dimensions. So below a prime above
the bound some t is always left.
"""

from anymend.spans import extended, pivot_of


class Spans:
    """Bases of spans, and the numbers of those that are not known to hold the source."""

    def __init__(self, bases, source, prime):
        self.bases = list(bases)
        self.source = source
        self.prime = prime
        self.growing = [k for k in range(len(self.bases)) if not self.is_whole(k)]

    def take(self, letter):
        """Let all spans that do not hold the source grow by a letter; False if it is in one of them."""
        pivots = {}
        for k in list(self.growing):
            pivot = pivot_of(self.bases[k], letter, self.prime)
            if pivot is not None:
                pivots[k] = pivot
            elif self.holds_source(k):
                self.growing.remove(k)
            else:
                return False
        for k, pivot in pivots.items():
            self.bases[k] = self.bases[k] + [pivot]
        self.growing = [k for k in self.growing if not self.is_whole(k)]
        return len(pivots) > 0

    def is_whole(self, k):
        """Whether a span holds all letters that there are."""
        return len(self.bases[k]) == len(self.source[0])

    def holds_source(self, k):
        """Whether a span holds the source."""
        return all(pivot_of(self.bases[k], row, self.prime) is None for row in self.source)


def drawn(bases, source, most, prime):
    """At most so many letters in the span of a source, and the bases with these letters.

    No more letters are chosen than are needed until all bases hold the source.
    """
    own = [row for _, row in extended([], source, prime)]
    letters = []
    if len(own) == 0:
        return letters, bases
    spans = Spans(bases, own, prime)
    t = 0
    while len(letters) < most and len(spans.growing) > 0:
        letter = mixed(own, t % prime, prime)
        if spans.take(letter):
            letters.append(letter)
        t += 1
    return letters, spans.bases


def mixed(rows, t, prime):
    """The sum of rows with the multiples 1, t, t * t, .."""
    total = rows[-1]
    for row in reversed(rows[:-1]):
        total = [(number * t + other) % prime for number, other in zip(total, row)]
    return total
