"""Items of a desk, and texts of files that are made of them."""

from anymend.errors import BadText, NoName
from anymend.stores import Store
from anymend.texts import Line, lines_of
from anymend.turns import Turns

HEADS = ("store", "turns")


class Item:
    """An item: its name, the name of the store that its turns are on (None for a store), and its lines.

    told is the Store or the Turns that the lines tell, None until they are
    read; start is the number of the head line that errors count from.
    """

    def __init__(self, name, on, lines, start, told):
        self.name = name
        self.on = on
        self.lines = lines
        self.start = start
        self.told = told
        # What was found of promises about this item; its Store or Turns never changes.
        self.found = {}

    def head(self):
        """The head line."""
        return f"store {self.name}" if self.on is None else f"turns {self.name} on {self.on}"


def is_head(line):
    """Whether a line begins an item."""
    return line.split(" ")[0] in HEADS


def unread_items(text):
    """The items of the text of a file, which are not read yet."""
    found = []
    rows = []
    for number, line in enumerate(lines_of(text), start=1):
        if is_head(line):
            taken = [item.name for item in found]
            name, on = read_head(Line(number, line), taken)
            found.append(Item(name, on, (), number, None))
            rows.append([])
        elif len(found) == 0:
            raise BadText(number, 1)
        else:
            rows[-1].append(line)
    return [Item(item.name, item.on, tuple(row), item.start, None) for item, row in zip(found, rows)]


def read_head(line, taken):
    """The name of the item of a head line, and the name of the store that it is on, or None."""
    kind = line.take()
    name = line.take_name()
    if name in taken:
        line.refuse()
    on = None
    if kind == "turns":
        line.take_this("on")
        on = line.take_name()
    line.finish()
    return name, on


def read_items(items):
    """Items, all of them read: first the stores, then the turns."""
    stores = {item.name: read_store(item) for item in items if item.on is None}
    turns = {item.name: read_turns(item, stores) for item in items if item.on is not None}
    return tuple(stores[item.name] if item.on is None else turns[item.name] for item in items)


def read_store(item):
    """An item whose Store is read."""
    if item.told is not None:
        return item
    try:
        told = Store(text_of(item.lines))
    except BadText as error:
        raise BadText(item.start + error.line, error.column) from None
    return Item(item.name, None, item.lines, 0, told)


def read_turns(item, stores):
    """An item whose Turns are read, the items of the stores being told by their names."""
    if item.told is not None:
        return item
    if item.on not in stores:
        raise NoName(item.on)
    for number, line in enumerate(item.lines, start=1):
        if is_head(line):
            raise BadText(item.start + number, 1)
    try:
        told = Turns(stores[item.on].told, text_of(item.lines))
    except BadText as error:
        raise BadText(item.start + error.line, error.column) from None
    return Item(item.name, item.on, item.lines, 0, told)


def text_of(lines):
    """The text of some lines, each with a line feed."""
    return "".join([line + "\n" for line in lines])


def unread_on(items, names):
    """Items of which turns on stores of some names are to be read again."""
    return [unread(item, item.lines) if item.on in names else item for item in items]


def unread(item, lines):
    """An item with other lines that are to be read; at the desk its head line is line 0."""
    return Item(item.name, item.on, lines, 0, None)


def renamed(item, name, on):
    """An item with other names, which is told as it was."""
    found = Item(name, on, item.lines, 0, item.told)
    found.found = item.found
    return found
