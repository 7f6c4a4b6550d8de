"""Promises about the items of a desk: what they ask, whether they are kept, and what shows it."""

from anymend.demands import bar_within, greatest_file
from anymend.errors import BadNumber, BadText, NoName, NotKept
from anymend.numbers import check_link, least_number
from anymend.placed import reread
from anymend.texts import Line
from anymend.turns import bar_by

MOST = 40
MOST_READER = 9999

# How many names of nodes and labels a promise of each kind tells.
NAMES = {"lasts": 0, "file": 0, "room": 1, "link": 3, "reads": 0}


class Promise:
    """What the text of a promise asks."""

    def __init__(self, text):
        if not isinstance(text, str):
            raise BadText(0, 0)
        line = Line(1, text)
        self.text = text
        self.name = line.take_name()
        self.kind = line.take()
        if self.kind not in NAMES:
            line.refuse()
        self.names = tuple([line.take_name() for _ in range(NAMES[self.kind])])
        self.number = None
        if self.kind != "lasts":
            self.number = line.take_number(0, MOST_READER if self.kind == "reads" else MOST)
        self.mends = taken_mends(line)
        line.finish()


def taken_mends(line):
    """The number of mends that the next word tells, None for ever."""
    if line.is_next("ever"):
        line.take()
        return None
    return line.take_number(0, MOST)


def subject(items, promise):
    """The item that a promise is about; an error if it can not be asked."""
    for item in items:
        if item.name == promise.name and (item.on is None or promise.kind == "lasts"):
            check_names(item.told, promise)
            return item
    raise NoName(promise.name)


def check_names(told, promise):
    """NoName or BadNumber for the first name or number of a promise that its store does not have."""
    if promise.kind == "link":
        # NoName, if it is no label.
        told.mend_of(promise.names[0])
    if promise.kind in ("room", "link"):
        for name in promise.names[-2:] if promise.kind == "link" else promise.names:
            if name not in told.nodes:
                raise NoName(name)
    if promise.kind == "link":
        label, node, helper = promise.names
        check_link(told, label, node, helper)
    if promise.kind == "reads" and promise.number >= len(told.readers):
        raise BadNumber("reader", promise.number)


def verdict(items, promise):
    """Whether a promise is kept by some items, and its witness if it is not."""
    item = subject(items, promise)
    asked = (promise.kind, promise.names, promise.number, promise.mends)
    if asked not in item.found:
        item.found[asked] = found_out(item, promise)
    return item.found[asked]


def found_out(item, promise):
    """What verdict tells of the item that a promise is about."""
    if promise.kind == "lasts":
        bar = bar_within(item.told, promise.mends) if item.on is None else bar_by(item.told, promise.mends)
        return (bar is None, bar)
    if promise.kind == "file":
        return compared(greatest_file(item.told, promise.mends), promise.number)
    if promise.kind == "reads":
        readers = (item.told.readers[promise.number],)
        return compared(greatest_file(reread(item.told, readers), promise.mends), item.told.file)
    place = (promise.kind, *promise.names)
    least = least_number(item.told, place, promise.mends)
    if least is not None and least <= promise.number:
        return (True, None)
    return (False, least)


def compared(number, needed):
    """Whether a number is as great as is needed; it is the witness if it is not."""
    return (True, None) if number >= needed else (False, number)


def look_at(items, promises):
    """The error of the first promise that can not be asked or is not kept."""
    for text in promises:
        kept, witness = verdict(items, Promise(text))
        if not kept:
            raise NotKept(text, witness)
