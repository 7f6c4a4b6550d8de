"""Stores: a file, nodes with rooms, mends and readers, read out of a text."""

from anymend.errors import BadName, BadText, NoName
from anymend.texts import Line, lines_of, number_in

MOST = 40
MOST_NODES = 7


class Mend:
    """How one node, or a pair of nodes, is filled anew out of what helpers send."""

    def __init__(self, label, kind, nodes, helpers, amounts, swap):
        self.label = label
        self.kind = kind
        self.nodes = nodes
        self.helpers = helpers
        self.amounts = amounts
        self.swap = swap


class Store:
    """What a store text tells."""

    def __init__(self, text):
        draft = Draft(text)
        self.text = text
        self.file = draft.file
        self.nodes = tuple(draft.nodes)
        self.rooms = tuple(draft.rooms)
        self.news = tuple(draft.news)
        self.mends = tuple(draft.mends)
        self.readers = tuple(draft.readers)

    def is_new(self, name):
        """Whether a node holds nothing until it is mended."""
        if not isinstance(name, str):
            raise BadName(name)
        if name not in self.nodes:
            raise NoName(name)
        return name in self.news

    def mend_of(self, label):
        """The mend that a label names."""
        if not isinstance(label, str):
            raise BadName(label)
        for mend in self.mends:
            if mend.label == label:
                return mend
        raise NoName(label)


class Draft:
    """A store as far as its lines have been read."""

    def __init__(self, text):
        self.file = None
        self.nodes = []
        self.rooms = []
        self.news = []
        self.mends = []
        self.readers = []
        lines = lines_of(text)
        for number, line in enumerate(lines, start=1):
            self.read(Line(number, line))
        if len(self.readers) == 0:
            raise BadText(len(lines) + 1, 1)

    def read(self, line):
        """Read the next line of the text."""
        word = line.take()
        if word == "file" and self.file is None:
            self.file = line.take_number(1, MOST)
        elif word in ("node", "new") and self.may_have_node():
            self.read_node(line, word == "new")
        elif word == "mend" and self.may_have_mend():
            self.read_mend(line)
        elif word == "pair" and self.may_have_mend():
            self.read_pair(line)
        elif word == "reader" and self.stands():
            self.read_reader(line)
        else:
            line.refuse()
        line.finish()

    def stands(self):
        """Whether some node stands there from the start."""
        return len(self.nodes) > len(self.news)

    def may_have_node(self):
        """Whether the next line may tell a node."""
        if self.file is None or len(self.nodes) == MOST_NODES:
            return False
        return len(self.mends) == 0 and len(self.readers) == 0

    def may_have_mend(self):
        """Whether the next line may tell a mend."""
        return self.stands() and len(self.readers) == 0

    def read_node(self, line, is_new):
        """Read a node's name and room."""
        name = line.take_name()
        if name in self.nodes:
            line.refuse()
        room = line.take_number(0, MOST)
        self.nodes.append(name)
        self.rooms.append(room)
        if is_new:
            self.news.append(name)

    def read_mend(self, line):
        """Read a mend of one node."""
        label = self.taken_label(line)
        node = self.taken_node(line, ())
        line.take_this("from")
        row = self.taken_items(line, (node,), None)
        self.mends.append(Mend(label, "one", (node,), names_of(row), numbers_of(row), None))

    def read_pair(self, line):
        """Read a mend of two nodes."""
        label = self.taken_label(line)
        first = self.taken_node(line, ())
        nodes = (first, self.taken_node(line, (first,)))
        line.take_this("swap")
        swap = line.take_number(0, MOST)
        line.take_this("from")
        near = self.taken_items(line, nodes, "and")
        far = self.taken_items(line, nodes, None)
        helpers = (names_of(near), names_of(far))
        amounts = (numbers_of(near), numbers_of(far))
        self.mends.append(Mend(label, "pair", nodes, helpers, amounts, swap))

    def read_reader(self, line):
        """Read the nodes of a reader, some with limits."""
        row = [self.taken_place(line, ())]
        while not line.is_over():
            row.append(self.taken_place(line, names_of(row)))
        self.readers.append(tuple(row))

    def taken_label(self, line):
        """The next word, a label that no mend has yet."""
        label = line.take_name()
        if any(mend.label == label for mend in self.mends):
            line.refuse()
        return label

    def taken_node(self, line, barred):
        """The next word, a node that is not barred."""
        name = line.take()
        if name not in self.nodes or name in barred:
            line.refuse()
        return name

    def taken_items(self, line, mended, close):
        """The next words, helpers and their amounts, up to the word that closes them or to the end."""
        row = [self.taken_item(line, mended)]
        while not (line.is_over() if close is None else line.is_next(close)):
            row.append(self.taken_item(line, mended + names_of(row)))
        if close is not None:
            line.take()
        return row

    def taken_item(self, line, barred):
        """The next word, a helper that is not barred and its amount."""
        name, colon, digits = line.take().partition(":")
        amount = number_in(digits, 1, MOST)
        if name not in self.nodes or name in barred or colon == "" or amount is None:
            line.refuse()
        return (name, amount)

    def taken_place(self, line, barred):
        """The next word, a node of a reader that is not barred, and its limit or None."""
        name, colon, digits = line.take().partition(":")
        limit = number_in(digits, 0, MOST)
        if name not in self.nodes or name in barred or (colon != "" and limit is None):
            line.refuse()
        return (name, limit)


def names_of(row):
    """The names of a row of pairs of a name and a number."""
    return tuple(name for name, _ in row)


def numbers_of(row):
    """The numbers of a row of pairs of a name and a number."""
    return tuple(number for _, number in row)


def links_of(mend):
    """For each node of a mend the pairs of a helper and its amount."""
    if mend.kind == "one":
        return (tuple(zip(mend.helpers, mend.amounts)),)
    return tuple(tuple(zip(names, amounts)) for names, amounts in zip(mend.helpers, mend.amounts))


def written(store):
    """The text of a store in one form."""
    lines = [f"file {store.file}"]
    for name, room in zip(store.nodes, store.rooms):
        word = "new" if store.is_new(name) else "node"
        lines.append(f"{word} {name} {room}")
    for mend in store.mends:
        lines.append(written_mend(mend))
    for reader in store.readers:
        lines.append("reader " + written_items(reader))
    return "".join([line + "\n" for line in lines])


def written_mend(mend):
    """The line of a mend."""
    sent = " and ".join([written_items(row) for row in links_of(mend)])
    if mend.kind == "one":
        return f"mend {mend.label} {mend.nodes[0]} from {sent}"
    return f"pair {mend.label} {mend.nodes[0]} {mend.nodes[1]} swap {mend.swap} from {sent}"


def written_items(row):
    """The words of pairs of a node and its number, or None."""
    return " ".join([name if number is None else f"{name}:{number}" for name, number in row])
