"""The mender: which letters are sent and kept, so that all lots have their best ranks."""

from anymend.errors import TooSmall
from anymend.fields import check_prime
from anymend.letters import drawn
from anymend.lots import check_lot, numbered_lot
from anymend.moves import Move, step_price
from anymend.states import State, bases_by_number, ranks_by_number
from anymend.stores import links_of


class Mended:
    """What was sent in a mend, and the state after it."""

    def __init__(self, letters, state):
        self.letters = letters
        self.state = state


def field_bound(store):
    """The bound above which each prime is big enough for each mend."""
    many = len(store.nodes)
    if any(mend.kind == "pair" for mend in store.mends):
        return (1 << (many + 3)) * (store.file - 1)
    return (1 << (many - 1)) * (store.file - 1)


def check_bound(store, prime):
    """TooSmall if a prime is not above the bound of a store."""
    bound = field_bound(store)
    if prime <= bound:
        raise TooSmall(prime, bound)


def first_state(store, prime):
    """A state in which the rank of each lot is its start price, or the file if that is less."""
    check_prime(prime)
    check_bound(store, prime)
    letters = [[1 if at == k else 0 for at in range(store.file)] for k in range(store.file)]
    bases = [[]]
    rows = []
    for name, room in zip(store.nodes, store.rooms):
        held, grown = drawn(bases, letters, 0 if store.is_new(name) else room, prime)
        # All lots of the nodes so far: those without this one, and those with it.
        bases = bases + grown
        rows.append(held)
    return State(store, prime, rows)


def mended(state, label):
    """What is sent in a mend and the state after it, in which all lots have their best ranks."""
    mend = state.store.mend_of(label)
    check_bound(state.store, state.prime)
    gone = numbered_lot(state.store, mend.nodes)
    bases = [basis for lot, basis in enumerate(bases_by_number(state)) if lot & gone == 0]
    if mend.kind == "one":
        letters, kept = mended_node(state, mend, bases)
    else:
        letters, kept = mended_pair(state, mend, bases)
    fresh = dict(zip(mend.nodes, kept))
    rows = [fresh.get(name, held) for name, held in zip(state.store.nodes, state.rows)]
    return Mended(letters, State(state.store, state.prime, rows))


def mended_node(state, mend, bases):
    """What the helpers of a node send it, and the row of what it keeps.

    The bases are those of all lots without the node.
    """
    sent, _ = collected(state, bases, links_of(mend)[0])
    kept, _ = drawn(bases, joined(sent), room_of(state.store, mend.nodes[0]), state.prime)
    return sent, [kept]


def mended_pair(state, mend, bases):
    """What the helpers of a pair and its nodes send, and what both nodes keep.

    The bases are those of all lots without the two. Behind them stand
    those of the same lots with what one node has got, where the other
    one's letters must do for these, too.
    """
    many = len(bases)
    near_links, far_links = links_of(mend)
    near, with_near = collected(state, bases, near_links)
    far, with_far = collected(state, bases + with_near, far_links)
    over, with_all_far = drawn(with_far[:many], joined(near), mend.swap, state.prime)
    back, _ = drawn(with_near, joined(far), mend.swap, state.prime)
    rooms = [room_of(state.store, name) for name in mend.nodes]
    first, with_first = drawn(bases + with_all_far, joined(near) + back, rooms[0], state.prime)
    second, _ = drawn(bases + with_first[:many], joined(far) + over, rooms[1], state.prime)
    return (near, far, as_rows(over), as_rows(back)), [first, second]


def collected(state, bases, links):
    """What helpers send, helper by helper, and the bases with all of it."""
    letters = []
    grown = bases
    for helper, amount in links:
        held = state.rows[state.store.nodes.index(helper)]
        sent, grown = drawn(grown, held, amount, state.prime)
        letters.append(as_rows(sent))
    return tuple(letters), grown


def joined(letters):
    """All letters that several nodes send."""
    return [letter for sent in letters for letter in sent]


def as_rows(letters):
    """The tuple of some letters, each one a tuple."""
    return tuple(tuple(letter) for letter in letters)


def room_of(store, name):
    """The room of a node."""
    return store.rooms[store.nodes.index(name)]


def after(state, history):
    """The state after a history."""
    for label in history:
        # BadName or NoName, if it is no label.
        state.store.mend_of(label)
    check_bound(state.store, state.prime)
    behind = state
    for label in history:
        behind = mended(behind, label).state
    return behind


def best_rank(state, label, lot):
    """The best rank of a lot after a mend."""
    mend = state.store.mend_of(label)
    check_lot(state.store, lot)
    move = Move(state.store, mend)
    number = numbered_lot(state.store, lot)
    taken = number & move.mended
    rest = number - taken
    sums = [rank + step_price(move, at, taken) for at, rank in enumerate(ranks_by_number(state)) if at & rest == rest]
    return min(state.store.file, min(sums))
