"""Machines of histories: which mends may follow, and what each lot must hold in each state."""

from anymend.demands import demand_at, lasts_in, short_bar
from anymend.errors import BadName, BadText, NoName
from anymend.lots import check_lot, check_mends, many_lots, named_lot, numbered_lot
from anymend.states import ranks_by_number
from anymend.texts import Line, lines_of
from anymend.ways import Steps, layers_of, least_end_prices

MOST_STATES = 12
ALL = "*"


class Turns:
    """What the text of a machine tells."""

    def __init__(self, store, text):
        lines = [Line(number, line) for number, line in enumerate(lines_of(text), start=1)]
        if len(lines) == 0:
            raise BadText(1, 1)
        self.store = store
        self.text = text
        self.states = read_states(lines[0])
        self.nexts = read_turns(store, self.states, lines[1:])

    def after(self, state, label):
        """The next state, None if the mend is barred."""
        check_state(self, state)
        # BadName or NoName, if it is no label.
        self.store.mend_of(label)
        return self.nexts[(state, label)]


class Short:
    """A lot whose rank is below its demand."""

    def __init__(self, lot, rank, demand):
        self.lot = lot
        self.rank = rank
        self.demand = demand


def read_states(line):
    """The names of the states."""
    line.take_this("state")
    states = [line.take_name()]
    while not line.is_over():
        name = line.take_name()
        if name in states or len(states) == MOST_STATES:
            line.refuse()
        states.append(name)
    return tuple(states)


def read_turns(store, states, lines):
    """The dict of the next states, for each state and label; None where a mend is barred."""
    labels = [mend.label for mend in store.mends]
    nexts = {(state, label): None for state in states for label in labels}
    for line in lines:
        line.take_this("turn")
        froms = taken_ones(line, states)
        mends = taken_ones(line, labels)
        ahead = taken_name(line, states)
        line.finish()
        for state in froms:
            for label in mends:
                nexts[(state, label)] = ahead
    return nexts


def taken_ones(line, names):
    """The names that the next word stands for."""
    if line.is_next(ALL):
        line.take()
        return names
    return [taken_name(line, names)]


def taken_name(line, names):
    """The next word, one of some names."""
    name = line.take()
    if name not in names:
        line.refuse()
    return name


def check_state(turns, state):
    """BadName or NoName if a value is no state of a machine."""
    if not isinstance(state, str):
        raise BadName(state)
    if state not in turns.states:
        raise NoName(state)


def steps_by(turns):
    """The steps that a machine lets."""
    nexts = []
    for state in turns.states:
        names = [turns.nexts[(state, mend.label)] for mend in turns.store.mends]
        nexts.append([None if name is None else turns.states.index(name) for name in names])
    return Steps(turns.store, nexts)


def layers_by(turns, mends):
    """For each number of mends up to this one the least ways from all states and lots to any reader."""
    return layers_of(steps_by(turns), least_end_prices(turns.store), mends)


def prices_by(turns, state, mends):
    """The least ways from all lots in a state."""
    many = many_lots(turns.store)
    at = turns.states.index(state) * many
    return layers_by(turns, mends)[-1][at:at + many]


def demand_by(turns, state, lot, mends=None):
    """The demand of a state and a lot within so many mends."""
    check_state(turns, state)
    check_lot(turns.store, lot)
    check_mends(mends)
    return demand_at(turns.store, prices_by(turns, state, mends), numbered_lot(turns.store, lot))


def demands_by(turns, state, mends=None):
    """The pairs of a lot and its demand in a state, for all lots."""
    check_state(turns, state)
    check_mends(mends)
    prices = prices_by(turns, state, mends)
    return tuple((named_lot(turns.store, lot), demand_at(turns.store, prices, lot)) for lot in range(len(prices)))


def lasts_by(turns):
    """The greatest number of mends that a store lasts with a machine, None if it lasts for ever."""
    return lasts_in(turns.store, layers_by(turns, None))


def bar_by(turns, mends=None):
    """A shortest history that is let with a cut below the file, None if the store lasts so many mends."""
    check_mends(mends)
    steps = steps_by(turns)
    return short_bar(turns.store, steps, layers_of(steps, least_end_prices(turns.store), mends))


def standing_by(turns, state, held, mends=None):
    """The first lot whose rank is below its demand in a state, None if there is none."""
    check_state(turns, state)
    check_mends(mends)
    prices = prices_by(turns, state, mends)
    for lot, rank in enumerate(ranks_by_number(held)):
        needed = demand_at(turns.store, prices, lot)
        if rank < needed:
            return Short(named_lot(turns.store, lot), rank, needed)
    return None
