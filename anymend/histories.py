"""Histories of mends: what they let through, and their cuts."""

from anymend.errors import BadLot, BadName, BadNumber
from anymend.flows import Graph, arcs_into, fill
from anymend.kinds import is_list
from anymend.lots import check_lot, check_reader, numbered_lot
from anymend.moves import Move, step_price
from anymend.stores import links_of
from anymend.ways import end_price, start_price


class Net:
    """A store and a history of its mends."""

    def __init__(self, store, history):
        if not is_list(history):
            raise BadName(history)
        for label in history:
            # BadName or NoName, if it is no label.
            store.mend_of(label)
        self.store = store
        self.history = tuple(history)


class Flow:
    """A greatest flow to a reader, and a row of lots with its total as price."""

    def __init__(self, total, kept, links, out, cut):
        self.total = total
        self.kept = kept
        self.links = links
        self.out = out
        self.cut = cut


class Pipes:
    """The graph of a history: an arc for each number of a flow.

    Each piece is a vertex behind an arc that carries what it keeps. Where
    no piece stands, None is in the place of a vertex or an arc.
    """

    def __init__(self, store):
        self.store = store
        self.graph = Graph()
        self.source = self.graph.new_vertex()
        # More than can flow anywhere, for what has no bound of its own.
        self.plenty = sum(store.rooms) + 1
        self.newest = {name: None for name in store.nodes}
        self.kept = []
        self.links = []
        self.out = []
        for name in store.nodes:
            if not store.is_new(name):
                self.newest[name] = self.new_piece(name, self.source)
        self.moments = [self.newest_pieces()]

    def newest_pieces(self):
        """The vertices of the present pieces, node by node."""
        return [self.newest[name] for name in self.store.nodes]

    def new_piece(self, name, filler):
        """The vertex of a new piece of a node, filled from another vertex."""
        piece = self.graph.new_vertex()
        room = self.store.rooms[self.store.nodes.index(name)]
        self.kept.append(self.graph.new_arc(filler, piece, room))
        return piece

    def sent_on(self, name, head, most):
        """The arc from the present piece of a node."""
        if self.newest[name] is None:
            return None
        return self.graph.new_arc(self.newest[name], head, most)

    def add_mend(self, mend):
        """Do the next mend of the history."""
        links = []
        fillers = []
        for row in links_of(mend):
            filler = self.graph.new_vertex()
            links.append([self.sent_on(helper, filler, amount) for helper, amount in row])
            fillers.append(filler)
        if mend.kind == "pair":
            fillers, across = self.exchange(fillers, mend.swap)
            links.append(across)
        for name, filler in zip(mend.nodes, fillers):
            self.newest[name] = self.new_piece(name, filler)
        self.links.append(links)
        self.moments.append(self.newest_pieces())

    def exchange(self, collected, swap):
        """The vertices behind the exchange of two others, and the arcs across.

        What comes across reaches the piece of the other node only, so it
        is not sent back.
        """
        first, second = self.graph.new_vertex(), self.graph.new_vertex()
        self.graph.new_arc(collected[0], first, self.plenty)
        self.graph.new_arc(collected[1], second, self.plenty)
        across = [self.graph.new_arc(collected[0], second, swap), self.graph.new_arc(collected[1], first, swap)]
        return [first, second], across

    def add_reader(self, reader):
        """Let the nodes of a reader give out to it; its vertex."""
        sink = self.graph.new_vertex()
        for name, limit in self.store.readers[reader]:
            self.out.append(self.sent_on(name, sink, self.plenty if limit is None else limit))
        return sink

    def carried_by(self, arcs):
        """What some arcs carry, 0 where there is none."""
        return tuple(0 if arc is None else self.graph.carried(arc) for arc in arcs)

    def carried_links(self):
        """What goes over the links, label by label."""
        found = []
        for links in self.links:
            rows = tuple(self.carried_by(row) for row in links)
            found.append(rows if len(rows) > 1 else rows[0])
        return tuple(found)

    def cut_behind(self):
        """The lots of the nodes whose present pieces lie behind the fullest cut."""
        ahead = arcs_into(self.graph, self.source)
        return tuple(self.lot_behind(pieces, ahead) for pieces in self.moments)

    def lot_behind(self, pieces, ahead):
        """The nodes whose pieces are not among the vertices ahead of a cut.

        A node without a piece lies behind it, since there it costs nothing.
        """
        return tuple(name for name, piece in zip(self.store.nodes, pieces) if piece not in ahead)


def flow_to(net, reader):
    """A greatest flow from the file to a reader."""
    check_reader(net.store, reader)
    pipes = Pipes(net.store)
    for label in net.history:
        pipes.add_mend(net.store.mend_of(label))
    sink = pipes.add_reader(reader)
    fill(pipes.graph, pipes.source, sink)
    out = pipes.carried_by(pipes.out)
    return Flow(sum(out), pipes.carried_by(pipes.kept), pipes.carried_links(), out, pipes.cut_behind())


def cut_price(net, reader, lots):
    """The price of a row of lots for a reader, None if there is none."""
    check_reader(net.store, reader)
    if not isinstance(lots, tuple) or len(lots) != len(net.history) + 1:
        raise BadNumber("lots", lots)
    check_lot(net.store, lots[0])
    at = numbered_lot(net.store, lots[0])
    total = start_price(net.store, at)
    for label, lot in zip(net.history, lots[1:]):
        check_lot(net.store, lot)
        move = Move(net.store, net.store.mend_of(label))
        ahead = numbered_lot(net.store, lot)
        if at | move.mended != ahead | move.mended:
            raise BadLot(lot)
        total += step_price(move, at, ahead & move.mended)
        at = ahead
    end = end_price(net.store, reader, at)
    return None if end is None else total + end
