"""The numbers of a store: rows that they must let, the least ones that are enough, the tight ones."""

from anymend.demands import least_bar, least_cut
from anymend.errors import BadName, NoName
from anymend.kinds import is_whole
from anymend.lots import check_mends
from anymend.placed import more_at, numbers_of_places, renumbered, replaced
from anymend.stores import links_of
from anymend.uses import used_places
from anymend.ways import Steps, layers_of, least_end_prices


class Row:
    """A row of steps to a reader, and how often it uses which places."""

    def __init__(self, lot, steps, reader, uses):
        self.lot = lot
        self.steps = steps
        self.reader = reader
        self.uses = uses


def places(store):
    """The pairs of a place and its number."""
    numbers = numbers_of_places(store)
    return tuple(numbers.items())


def least_row(store, mends=None):
    """A Row of at most so many steps whose total is least."""
    check_mends(mends)
    return row_by(store, numbers_of_places(store), mends)


def row_by(store, numbers, mends):
    """A Row of at most so many steps whose total with these numbers is least."""
    altered = renumbered(store, numbers)
    steps = Steps(altered)
    found = least_bar(altered, steps, layers_of(steps, least_end_prices(altered), mends))
    taken = tuple(zip(found.history, found.taken))
    return Row(found.lot, taken, found.reader, used_places(store, numbers, found.lot, taken, found.reader))


def total_by(store, numbers, mends):
    """The least total of a Row of at most so many steps with these numbers."""
    altered = renumbered(store, numbers)
    return least_cut(altered, layers_of(Steps(altered), least_end_prices(altered), mends)[-1])


def total_of(row, numbers):
    """The total of a Row with these numbers."""
    return sum(numbers[place] * times for place, times in row.uses)


def least_room(store, node, mends=None):
    """The least room of a node that is enough, None if none is."""
    check_names((node,))
    if node not in store.nodes:
        raise NoName(node)
    check_mends(mends)
    return least_number(store, ("room", node), mends)


def least_amount(store, label, node, helper, mends=None):
    """The least amount of a link that is enough, None if none is."""
    check_names((label, node, helper))
    check_link(store, label, node, helper)
    check_mends(mends)
    return least_number(store, ("link", label, node, helper), mends)


def least_swap(store, label, mends=None):
    """The least swap of a pair that is enough, None if none is."""
    # BadName or NoName, if it is no label.
    if store.mend_of(label).kind != "pair":
        raise NoName(label)
    check_mends(mends)
    return least_number(store, ("swap", label), mends)


def check_names(names):
    """BadName for the first one of some values that is no string."""
    for name in names:
        if not isinstance(name, str):
            raise BadName(name)


def check_link(store, label, node, helper):
    """NoName for the first name of a link that is none."""
    mend = store.mend_of(label)
    if node not in mend.nodes:
        raise NoName(node)
    links = links_of(mend)[mend.nodes.index(node)]
    if all(name != helper for name, _ in links):
        raise NoName(helper)


def least_number(store, place, mends):
    """The least number at a place that is enough, None if none is."""
    numbers = numbers_of_places(store)
    # Each greater number is enough, too, and none above the file is needed.
    low, high = 0, store.file + 1
    while low < high:
        middle = (low + high) // 2
        if total_by(store, replaced(numbers, place, middle), mends) >= store.file:
            high = middle
        else:
            low = middle + 1
    return low if low <= store.file else None


def tight(store, mends=None):
    """The places at which one letter more makes the greatest file greater."""
    row = least_row(store, mends)
    numbers = numbers_of_places(store)
    # A place that some least row does without is not tight.
    return tuple(place for place, _ in row.uses if is_tight(store, numbers, place, mends))


def is_tight(store, numbers, place, mends):
    """Whether one more at a place makes the least total greater."""
    return total_by(store, more_at(numbers, place), mends) > total_by(store, numbers, mends)


def row_without(store, place, mends=None):
    """A Row with the least total that does not use a place, None if the place is tight."""
    numbers = numbers_of_places(store)
    if not is_place(place) or place not in numbers:
        raise NoName(place)
    check_mends(mends)
    if is_tight(store, numbers, place, mends):
        return None
    # With one more there a Row that uses the place is above the least total.
    return row_by(store, more_at(numbers, place), mends)


def is_place(value):
    """Whether a value is of the kind of a place: a tuple of strings and integers."""
    return isinstance(value, tuple) and all(isinstance(part, str) or is_whole(part) for part in value)
