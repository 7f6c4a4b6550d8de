"""Steps from lot to lot by mends, and their prices. Lots are numbers here."""

from anymend.lots import many_lots, numbered_lot
from anymend.stores import links_of

# Which of the two nodes of a pair are collected: none, one or both.
COLLECTED = ((False, False), (True, False), (False, True), (True, True))


class Move:
    """A mend whose nodes and helpers are told as lots of one node each."""

    def __init__(self, store, mend):
        self.label = mend.label
        self.nodes = tuple(numbered_lot(store, (name,)) for name in mend.nodes)
        self.mended = sum(self.nodes)
        self.rooms = tuple(store.rooms[store.nodes.index(name)] for name in mend.nodes)
        self.links = tuple(numbered_links(store, row) for row in links_of(mend))
        self.swap = mend.swap


def numbered_links(store, row):
    """The pairs of a helper, as a lot of its own, and its amount."""
    return tuple((numbered_lot(store, (helper,)), amount) for helper, amount in row)


def choices_of(move):
    """The lots that a step can bring in."""
    if move.swap is None:
        return (0, move.mended)
    return (0, *move.nodes, move.mended)


def amount_outside(row, lot):
    """The sum of the amounts of those helpers that are not in a lot."""
    return sum(amount for helper, amount in row if helper & lot == 0)


def step_price(move, lot, taken):
    """The price of the step from a lot that brings in these mended nodes."""
    if taken == 0:
        return 0
    amounts = [amount_outside(row, lot) for row in move.links]
    if move.swap is None:
        return min(move.rooms[0], amounts[0])
    return min([pair_price(move, amounts, taken, collected) for collected in COLLECTED])


def pair_price(move, amounts, taken, collected):
    """The price of a pair's step if these of its nodes are collected."""
    total = 0
    for own, other in ((0, 1), (1, 0)):
        if collected[own]:
            total += amounts[own]
        if move.nodes[own] & taken == 0:
            continue
        if not collected[own]:
            total += move.rooms[own]
        elif not collected[other]:
            total += min(move.rooms[own], move.swap)
    return total


def step_groups(store, move):
    """For each lot without the mended nodes the pairs of a lot that a step leads to and its price.

    The lots that such steps lead to differ in mended nodes alone. So they
    are also the very lots that the steps start from, at the same prices.
    """
    groups = {}
    for lot in range(many_lots(store)):
        if lot & move.mended == 0:
            groups[lot] = [(lot | taken, step_price(move, lot, taken)) for taken in choices_of(move)]
    return groups
