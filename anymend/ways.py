"""Least prices of rows of steps. Lots are numbers here, and None is the price of what no row reaches."""

from anymend.lots import many_lots
from anymend.moves import Move, step_groups


class Steps:
    """All mends of a store, and their steps from each lot."""

    def __init__(self, store):
        self.moves = [Move(store, mend) for mend in store.mends]
        self.groups = [step_groups(store, move) for move in self.moves]


def start_price(store, lot):
    """The sum of the rooms of a lot's nodes, a new node counting 0."""
    total = 0
    for k, name in enumerate(store.nodes):
        if lot >> k & 1 == 1 and not store.is_new(name):
            total += store.rooms[k]
    return total


def end_price(store, reader, lot):
    """The limits of a reader's nodes outside of a lot; None if one of these has no limit."""
    total = 0
    for name, limit in store.readers[reader]:
        if lot >> store.nodes.index(name) & 1 == 0:
            if limit is None:
                return None
            total += limit
    return total


def end_prices(store, reader):
    """The end prices of all lots for a reader."""
    return [end_price(store, reader, lot) for lot in range(many_lots(store))]


def least_end_prices(store):
    """For each lot the least of its end prices for all readers."""
    rows = [end_prices(store, reader) for reader in range(len(store.readers))]
    return [least([row[lot] for row in rows]) for lot in range(many_lots(store))]


def least(prices):
    """The least of some prices, None if none of them is a number."""
    return min([price for price in prices if price is not None], default=None)


def layers_of(steps, ends, mends):
    """For each number of mends the least prices from all lots on, within so many.

    The last of them holds for the number that is asked for: when prices
    stay as they are for one more mend, they stay for ever.
    """
    layers = [ends]
    while mends is None or len(layers) <= mends:
        further = prices_further(steps, layers[-1])
        if further == layers[-1]:
            break
        layers.append(further)
    return layers


def prices_further(steps, prices):
    """The least prices from all lots on, one more step being let."""
    further = list(prices)
    for groups in steps.groups:
        for group in groups.values():
            found = least([prices[lot] + price for lot, price in group if prices[lot] is not None])
            if found is None:
                continue
            for lot, _ in group:
                if further[lot] is None or found < further[lot]:
                    further[lot] = found
    return further


def row_down(steps, layers, lot):
    """A shortest least row of steps from a lot on, and the lot that it ends at.

    Each step goes down to a lower layer, so that the row ends, also where
    steps are free. It is told by pairs of a label and the lot of the
    nodes that are brought in.
    """
    row = []
    at = lot
    for k in range(len(layers) - 1, 0, -1):
        # What fewer mends let for the same price needs no step.
        if layers[k - 1][at] != layers[k][at]:
            move, ahead = step_down(steps, layers[k][at], layers[k - 1], at)
            row.append((move.label, ahead & move.mended))
            at = ahead
    return row, at


def step_down(steps, price, lower, lot):
    """A mend and the lot that its step leads to, where prices fall from this one to the lower ones."""
    fits = []
    for move, groups in zip(steps.moves, steps.groups):
        for ahead, cost in groups[lot - (lot & move.mended)]:
            if lower[ahead] is not None and lower[ahead] + cost == price:
                fits.append((move, ahead))
    return fits[0]
