"""The numbers of a store by their places, and stores with other numbers."""

from anymend.stores import Mend, links_of


class Altered:
    """What the ways, demands and cuts of a store hang on, with other numbers or other readers."""

    def __init__(self, store, rooms, mends, readers):
        self.file = store.file
        self.nodes = store.nodes
        self.rooms = rooms
        self.news = store.news
        self.mends = mends
        self.readers = readers

    def is_new(self, name):
        """Whether a node holds nothing until it is mended."""
        return name in self.news


def reread(store, readers):
    """A store with other readers."""
    return Altered(store, store.rooms, store.mends, readers)


def numbers_of_places(store):
    """The dict of the numbers of a store, the places in their order."""
    numbers = {("room", name): room for name, room in zip(store.nodes, store.rooms)}
    for mend in store.mends:
        for node, links in zip(mend.nodes, links_of(mend)):
            for helper, amount in links:
                numbers[("link", mend.label, node, helper)] = amount
        if mend.kind == "pair":
            numbers[("swap", mend.label)] = mend.swap
    for reader, row in enumerate(store.readers):
        for name, limit in row:
            if limit is not None:
                numbers[("limit", reader, name)] = limit
    return numbers


def renumbered(store, numbers):
    """A store with the numbers of a dict at its places."""
    rooms = tuple(numbers[("room", name)] for name in store.nodes)
    mends = tuple(renumbered_mend(mend, numbers) for mend in store.mends)
    readers = tuple(
        tuple((name, None if limit is None else numbers[("limit", reader, name)]) for name, limit in row)
        for reader, row in enumerate(store.readers))
    return Altered(store, rooms, mends, readers)


def renumbered_mend(mend, numbers):
    """A mend with the numbers of a dict at its places."""
    amounts = tuple(
        tuple(numbers[("link", mend.label, node, helper)] for helper, _ in links)
        for node, links in zip(mend.nodes, links_of(mend)))
    if mend.kind == "one":
        return Mend(mend.label, "one", mend.nodes, mend.helpers, amounts[0], None)
    return Mend(mend.label, "pair", mend.nodes, mend.helpers, amounts, numbers[("swap", mend.label)])


def more_at(numbers, place):
    """Numbers with one more at a place."""
    return replaced(numbers, place, numbers[place] + 1)


def replaced(numbers, place, number):
    """Numbers with another one at a place."""
    return {at: number if at == place else numbers[at] for at in numbers}
