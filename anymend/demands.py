"""What each lot must hold, how many mends a store lasts, and what shows that it does not."""

from anymend.lots import check_lot, check_mends, check_reader, many_lots, named_lot, numbered_lot
from anymend.ways import Steps, end_price, end_prices, layers_of, least, least_end_prices, row_down, start_price


class Way:
    """The way from a lot to a reader, and a row of steps that has it."""

    def __init__(self, total, steps):
        self.total = total
        self.steps = steps


class Bar:
    """A history and a cut of it that is below the file."""

    def __init__(self, history, reader, lot, taken, total):
        self.history = history
        self.reader = reader
        self.lot = lot
        self.taken = taken
        self.total = total


def way(store, lot, reader, mends=None):
    """The way from a lot to a reader within so many mends."""
    check_lot(store, lot)
    check_reader(store, reader)
    check_mends(mends)
    steps = Steps(store)
    layers = layers_of(steps, end_prices(store, reader), mends)
    start = numbered_lot(store, lot)
    row, _ = row_down(steps, layers, start)
    return Way(layers[-1][start], tuple((label, named_lot(store, brought)) for label, brought in row))


def demand(store, lot, mends=None):
    """The demand of a lot within so many mends."""
    check_lot(store, lot)
    check_mends(mends)
    return demand_at(store, all_layers(store, mends)[-1], numbered_lot(store, lot))


def demands(store, mends=None):
    """The pairs of a lot and its demand, for all lots."""
    check_mends(mends)
    prices = all_layers(store, mends)[-1]
    return tuple((named_lot(store, lot), demand_at(store, prices, lot)) for lot in range(many_lots(store)))


def all_layers(store, mends):
    """For each number of mends up to this one the least ways from all lots to any reader."""
    return layers_of(Steps(store), least_end_prices(store), mends)


def demand_at(store, prices, lot):
    """The file less the least way from a lot, at least 0."""
    if prices[lot] is None:
        return 0
    return max(0, store.file - prices[lot])


def cut_from(store, prices, lot):
    """The least price of a cut that starts from a lot, or None."""
    if prices[lot] is None:
        return None
    return start_price(store, lot) + prices[lot]


def least_cut(store, prices):
    """The least price of a cut."""
    return least([cut_from(store, prices, lot) for lot in range(many_lots(store))])


def greatest_file(store, mends=None):
    """The greatest file with which a store would last so many mends."""
    check_mends(mends)
    return least_cut(store, all_layers(store, mends)[-1])


def lasts(store):
    """The greatest number of mends that a store lasts, None if it lasts for ever."""
    return lasts_in(store, all_layers(store, None))


def lasts_in(store, layers):
    """What lasts returns, by the least prices within each number of mends."""
    for mends, prices in enumerate(layers):
        if least_cut(store, prices) < store.file:
            return mends - 1
    return None


def bar(store, mends=None):
    """A shortest history with a cut below the file, None if the store lasts so many mends."""
    check_mends(mends)
    return bar_within(store, mends)


def bar_within(store, mends):
    """What bar returns, for a number of mends that is known to be right."""
    steps = Steps(store)
    return short_bar(store, steps, layers_of(steps, least_end_prices(store), mends))


def short_bar(store, steps, layers):
    """The Bar of a least cut of as few mends as bring it below the file, or None."""
    for many, prices in enumerate(layers):
        if least_cut(store, prices) < store.file:
            return least_bar(store, steps, layers[:many + 1])
    return None


def least_bar(store, steps, layers):
    """The Bar of a least cut of as many mends as there are layers behind the first one."""
    total = least_cut(store, layers[-1])
    starts = [lot for lot in range(many_lots(store)) if cut_from(store, layers[-1], lot) == total]
    row, end = row_down(steps, layers, starts[0])
    behind = end % steps.many
    readers = [reader for reader in range(len(store.readers)) if end_price(store, reader, behind) == layers[0][end]]
    history = tuple(label for label, _ in row)
    taken = tuple(named_lot(store, brought) for _, brought in row)
    return Bar(history, readers[0], named_lot(store, starts[0]), taken, total)
