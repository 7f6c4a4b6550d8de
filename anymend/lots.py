"""Lots of nodes, told as tuples of names or as numbers, and what asks about them.

As a number a lot is the sum of 1 << k over the numbers k of its nodes.
"""

from anymend.errors import BadLot, BadNumber
from anymend.kinds import is_whole


def many_lots(store):
    """How many lots there are; as numbers they are those from 0 to one below this."""
    return 1 << len(store.nodes)


def named_lot(store, lot):
    """The tuple of names of a lot that is told as a number."""
    return tuple(name for k, name in enumerate(store.nodes) if lot >> k & 1 == 1)


def numbered_lot(store, names):
    """The number of a lot that is told as names."""
    return sum(1 << store.nodes.index(name) for name in names)


def check_lot(store, lot):
    """BadLot if a value is no tuple of nodes in their order, each once."""
    if not isinstance(lot, tuple) or not all(isinstance(name, str) for name in lot):
        raise BadLot(lot)
    if lot != tuple(name for name in store.nodes if name in lot):
        raise BadLot(lot)


def check_reader(store, reader):
    """BadNumber if a value is not the number of a reader."""
    if not is_whole(reader) or not 0 <= reader < len(store.readers):
        raise BadNumber("reader", reader)


def check_mends(mends):
    """BadNumber if a value is no number of mends, and not None either."""
    if mends is not None and (not is_whole(mends) or mends < 0):
        raise BadNumber("mends", mends)
