"""Least prices of rows of steps. Lots are numbers here, and None is the price of what no row reaches.

Where a machine tells which mends may follow, a row stands at a spot: a
state and a lot. As a number it is that of the state times the number of
lots, plus the lot; so without a machine, and in the first state, spots
are lots.
"""

from anymend.lots import many_lots
from anymend.moves import Move, step_groups


class Steps:
    """All mends of a store, their steps from each lot, and which of them are let.

    For each state of a machine nexts tells the next state's number, mend
    by mend, None where it is barred. Without a machine all mends are let.
    """

    def __init__(self, store, nexts=None):
        self.many = many_lots(store)
        self.moves = [Move(store, mend) for mend in store.mends]
        self.groups = [step_groups(store, move) for move in self.moves]
        self.nexts = [[0 for _ in store.mends]] if nexts is None else nexts


def start_price(store, lot):
    """The sum of the rooms of a lot's nodes, a new node counting 0."""
    total = 0
    for k, name in enumerate(store.nodes):
        if lot >> k & 1 == 1 and not store.is_new(name):
            total += store.rooms[k]
    return total


def end_price(store, reader, lot):
    """The limits of a reader's nodes outside of a lot; None if one of these has no limit."""
    total = 0
    for name, limit in store.readers[reader]:
        if lot >> store.nodes.index(name) & 1 == 0:
            if limit is None:
                return None
            total += limit
    return total


def end_prices(store, reader):
    """The end prices of all lots for a reader."""
    return [end_price(store, reader, lot) for lot in range(many_lots(store))]


def least_end_prices(store):
    """For each lot the least of its end prices for all readers."""
    rows = [end_prices(store, reader) for reader in range(len(store.readers))]
    return [least([row[lot] for row in rows]) for lot in range(many_lots(store))]


def least(prices):
    """The least of some prices, None if none of them is a number."""
    return min([price for price in prices if price is not None], default=None)


def layers_of(steps, ends, mends):
    """For each number of mends the least prices from all spots on, within so many.

    The last of them holds for the number that is asked for: when prices
    stay as they are for one more mend, they stay for ever.
    """
    layers = [ends * len(steps.nexts)]
    while mends is None or len(layers) <= mends:
        further = prices_further(steps, layers[-1])
        if further == layers[-1]:
            break
        layers.append(further)
    return layers


def prices_further(steps, prices):
    """The least prices from all spots on, one more step being let."""
    further = []
    for state, nexts in enumerate(steps.nexts):
        here = prices[state * steps.many:(state + 1) * steps.many]
        for groups, ahead in zip(steps.groups, nexts):
            if ahead is not None:
                let_step(here, groups, prices[ahead * steps.many:(ahead + 1) * steps.many])
        further.extend(here)
    return further


def let_step(prices, groups, ahead):
    """Lower the prices of all lots to what they are with a step, and the prices ahead of it."""
    for group in groups.values():
        found = least([ahead[lot] + price for lot, price in group if ahead[lot] is not None])
        if found is None:
            continue
        for lot, _ in group:
            if prices[lot] is None or found < prices[lot]:
                prices[lot] = found


def row_down(steps, layers, spot):
    """A shortest least row of steps from a spot on, and the spot that it ends at.

    Each step goes down to a lower layer, so that the row ends, also where
    steps are free. It is told by pairs of a label and the lot of the
    nodes that are brought in.
    """
    row = []
    at = spot
    for k in range(len(layers) - 1, 0, -1):
        # What fewer mends let for the same price needs no step.
        if layers[k - 1][at] != layers[k][at]:
            move, ahead = step_down(steps, layers[k][at], layers[k - 1], at)
            row.append((move.label, ahead % steps.many & move.mended))
            at = ahead
    return row, at


def step_down(steps, price, prices, spot):
    """A mend and the spot that its step leads to, where prices fall from this one to others."""
    state, lot = divmod(spot, steps.many)
    fits = []
    for move, groups, next_state in zip(steps.moves, steps.groups, steps.nexts[state]):
        if next_state is None:
            continue
        for ahead, cost in groups[lot - (lot & move.mended)]:
            there = next_state * steps.many + ahead
            if prices[there] is not None and prices[there] + cost == price:
                fits.append((move, there))
    return fits[0]
