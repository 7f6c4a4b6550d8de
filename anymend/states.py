"""States of a store: the rows that its nodes hold, and how many mends they last."""

from anymend.demands import all_layers, demand_at
from anymend.errors import BadNumber
from anymend.fields import are_integers, check_prime
from anymend.kinds import is_list
from anymend.lots import check_lot, check_reader, many_lots, named_lot, numbered_lot
from anymend.spans import extended
from anymend.ways import end_price


class State:
    """The rows that the nodes of a store hold, modulo a prime."""

    def __init__(self, store, prime, rows):
        check_prime(prime)
        check_held(store, rows)
        self.store = store
        self.prime = prime
        self.rows = tuple(tuple(tuple(number % prime for number in row) for row in held) for held in rows)

    def rank_of(self, lot):
        """The rank of a lot."""
        check_lot(self.store, lot)
        basis = []
        for name in lot:
            basis = extended(basis, self.rows[self.store.nodes.index(name)], self.prime)
        return len(basis)


class Standing:
    """How many mends a state lasts, and a lot that holds too little for one more."""

    def __init__(self, mends, lot, rank, demand):
        self.mends = mends
        self.lot = lot
        self.rank = rank
        self.demand = demand


def check_held(store, rows):
    """BadNumber if a value does not tell the rows of each node of a store."""
    if not is_list(rows) or len(rows) != len(store.nodes) or not all(is_list(held) for held in rows):
        raise BadNumber("rows", rows)
    for k, held in enumerate(rows):
        if len(held) > store.rooms[k] or not all(is_row_of(store, row) for row in held):
            raise BadNumber("node", k)


def is_row_of(store, row):
    """Whether a value is a list with one integer for each letter of the file."""
    return are_integers(row) and len(row) == store.file


def bases_by_number(state):
    """Bases of what all lots hold, at their numbers."""
    # Of what a node holds, a basis is enough for all of its lots.
    held = [[row for _, row in extended([], rows, state.prime)] for rows in state.rows]
    bases = [[]]
    for lot in range(1, many_lots(state.store)):
        last = lot.bit_length() - 1
        bases.append(extended(bases[lot - (1 << last)], held[last], state.prime))
    return bases


def ranks_by_number(state):
    """The ranks of all lots, at their numbers."""
    return [len(basis) for basis in bases_by_number(state)]


def ranks(state):
    """The pairs of a lot and its rank, for all lots."""
    return tuple((named_lot(state.store, lot), rank) for lot, rank in enumerate(ranks_by_number(state)))


def gets(state, reader):
    """Whether a reader gets the file from a state."""
    check_reader(state.store, reader)
    nodes = numbered_lot(state.store, [name for name, _ in state.store.readers[reader]])
    for lot, rank in enumerate(ranks_by_number(state)):
        limits = end_price(state.store, reader, lot)
        if lot | nodes == nodes and limits is not None and rank + limits < state.store.file:
            return False
    return True


def standing(state):
    """How many mends a state lasts."""
    found = ranks_by_number(state)
    for mends, prices in enumerate(all_layers(state.store, None)):
        for lot, rank in enumerate(found):
            needed = demand_at(state.store, prices, lot)
            if rank < needed:
                return Standing(mends - 1, named_lot(state.store, lot), rank, needed)
    return Standing(None, None, None, None)
