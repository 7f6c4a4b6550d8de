"""A store at work: a file that lies over nodes, which are mended, changed and read."""

from anymend.errors import BadName, BadNumber, NoName
from anymend.fields import are_integers, solved
from anymend.kinds import is_whole
from anymend.menders import collected, first_state, mended
from anymend.spans import extended, rest_of
from anymend.states import bases_by_number, gets


class House:
    """A file and a state of a store, and the values that its nodes hold."""

    def __init__(self, store, prime, file):
        # BadNumber or TooSmall, if the prime is wrong.
        state = first_state(store, prime)
        if not are_integers(file) or len(file) != store.file:
            raise BadNumber("file", file)
        self.store = store
        self.prime = prime
        self._file = [number % prime for number in file]
        self._state = state
        self._held = [tuple(value_of(row, self._file, prime) for row in rows) for rows in state.rows]
        self._deeds = []

    def present(self):
        """The state that stands."""
        return self._state

    def shown(self, name):
        """The values of a node, one for each of its rows."""
        if not isinstance(name, str):
            raise BadName(name)
        if name not in self.store.nodes:
            raise NoName(name)
        return self._held[self.store.nodes.index(name)]

    def mend(self, label):
        """Mend; the values that are kept are worked out of those that are sent."""
        done = mended(self._state, label)
        mend = self.store.mend_of(label)
        if mend.kind == "one":
            got = [self.received(mend.helpers, done.letters)]
        else:
            got = self.exchanged(mend, done.letters)
        for name, (letters, values) in zip(mend.nodes, got):
            at = self.store.nodes.index(name)
            self._held[at] = carried(letters, values, done.state.rows[at], self.prime)
        self._state = done.state
        self._deeds.append(("mend", label))

    def received(self, helpers, letters):
        """All letters that helpers send, and their values."""
        values = []
        for helper, sent in zip(helpers, letters):
            at = self.store.nodes.index(helper)
            values.extend(carried(self._state.rows[at], self._held[at], sent, self.prime))
        return [letter for sent in letters for letter in sent], values

    def exchanged(self, mend, letters):
        """All letters that both nodes of a pair get, and their values."""
        near, far, over, back = letters
        first, second = self.received(mend.helpers[0], near), self.received(mend.helpers[1], far)
        there = carried(first[0], first[1], over, self.prime)
        here = carried(second[0], second[1], back, self.prime)
        return [([*first[0], *back], [*first[1], *here]), ([*second[0], *over], [*second[1], *there])]

    def read(self, reader):
        """The file as a reader gets it, None if it does not."""
        if not gets(self._state, reader):
            return None
        row = self.store.readers[reader]
        names = [name for name, _ in row]
        # No more letters than the file has are asked of a node without a limit.
        links = [(name, self.store.file if limit is None else limit) for name, limit in row]
        sent, _ = collected(self._state, bases_by_number(self._state), links)
        letters, values = self.received(names, sent)
        return solved(letters, values, self.prime)

    def change(self, place, number):
        """Make the letter of the file at a place a number; the values of the rows follow."""
        if not is_whole(place) or not 0 <= place < self.store.file:
            raise BadNumber("place", place)
        if not is_whole(number):
            raise BadNumber("number", number)
        more = number - self._file[place]
        self._file[place] = number % self.prime
        self._held = [
            tuple((value + row[place] * more) % self.prime for row, value in zip(rows, values))
            for rows, values in zip(self._state.rows, self._held)]
        self._deeds.append(("change", place, number % self.prime))

    def past(self):
        """All that was done, in order."""
        return tuple(self._deeds)


def value_of(row, file, prime):
    """The sum of a row's numbers times the letters of a file."""
    return sum([number * letter for number, letter in zip(row, file)]) % prime


def carried(rows, values, letters, prime):
    """The values of letters in the span of rows, out of the values of the rows alone."""
    # A value goes behind its row: what takes a letter down to zeros leaves there what its value lacks.
    basis = extended([], [[*row, value] for row, value in zip(rows, values)], prime)
    return tuple(-rest_of(basis, [*letter, 0], prime)[-1] % prime for letter in letters)


def again(store, prime, file, past):
    """A house that began with a file and did all that is told."""
    house = House(store, prime, file)
    for deed in past:
        if deed[0] == "mend":
            house.mend(deed[1])
        else:
            house.change(deed[1], deed[2])
    return house
