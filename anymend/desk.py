"""A desk for stores, turns and promises about them."""

from anymend.errors import BadName, BadNumber, BadText, NoName, NothingToRedo, NothingToUndo, TakenName
from anymend.items import read_items, renamed, text_of, unread, unread_items, unread_on
from anymend.kinds import is_whole
from anymend.promises import Promise, look_at, subject, verdict
from anymend.texts import is_name, lines_of


class Board:
    """What stands on a desk: items and the texts of promises. It never changes."""

    def __init__(self, items, promises):
        self.rows = items
        self.promises = promises


class Desk:
    """Items under names, promises that they keep, and edits that can be taken back."""

    def __init__(self, text=""):
        self._board = Board(read_items(unread_items(text)), ())
        # What stood ahead of each edit, and what stood where edits were taken back, the last one last.
        self._behind = ()
        self._ahead = ()
        # In how many attempts and trials the desk is.
        self._depth = 0

    def put(self, text):
        """Put the items of a file in the places of those with their names, or behind the last one."""
        fresh = {item.name: item for item in unread_items(text)}
        standing = [item.name for item in self._board.rows]
        items = [fresh.get(item.name, item) for item in unread_on(self._board.rows, fresh)]
        items.extend([fresh[name] for name in fresh if name not in standing])
        self._set(read_items(items), self._board.promises)

    def edit(self, name, number, text):
        """Put lines in the place of a line of an item, or behind its last one."""
        check_string(name)
        lines = tuple(lines_of(text))
        old = self._item(name)
        if not is_whole(number) or not 1 <= number <= len(old.lines) + 1:
            raise BadNumber("line", number)
        fresh = unread(old, old.lines[:number - 1] + lines + old.lines[number:])
        items = [fresh if item.name == name else item for item in unread_on(self._board.rows, (name,))]
        self._set(read_items(items), self._board.promises)

    def drop(self, name):
        """Take an item away, and the promises about it."""
        check_string(name)
        self._item(name)
        for item in self._board.rows:
            if item.on == name:
                raise TakenName(item.name)
        self._set(
            tuple(item for item in self._board.rows if item.name != name),
            tuple(promise for promise in self._board.promises if Promise(promise).name != name))

    def rename(self, name, new):
        """Call an item otherwise, also in turns on it and promises about it."""
        if not is_name(new):
            raise BadName(new)
        check_string(name)
        self._item(name)
        if new in self.item_names():
            raise TakenName(new)
        names = {name: new}
        self._set(
            tuple(renamed(item, names.get(item.name, item.name), names.get(item.on, item.on))
                  for item in self._board.rows),
            tuple(renamed_promise(promise, name, new) for promise in self._board.promises))

    def keep(self, promise):
        """Make a promise."""
        subject(self._board.rows, Promise(promise))
        made = self._board.promises
        self._set(self._board.rows, made if promise in made else (*made, promise))

    def release(self, promise):
        """Take a promise back."""
        if not isinstance(promise, str):
            raise BadText(0, 0)
        if promise not in self._board.promises:
            raise NoName(promise)
        self._set(self._board.rows, tuple(made for made in self._board.promises if made != promise))

    def attempt(self, action):
        """Do an action as one edit; if it fails, or promises are not kept behind it, all is as it was."""
        board, behind, ahead, depth = self._board, self._behind, self._ahead, self._depth
        done = None
        self._behind, self._ahead, self._depth = (), (), depth + 1
        try:
            answer = action(self)
            if depth == 0:
                look_at(self._board.rows, self._board.promises)
            done = True
        finally:
            self._depth = depth
            if done is None:
                self._board, self._behind, self._ahead = board, behind, ahead
            else:
                self._behind, self._ahead = behind + (board,), ()
        return answer

    def trial(self, action):
        """Do an action, behind which all is as it was."""
        board, behind, ahead, depth = self._board, self._behind, self._ahead, self._depth
        self._behind, self._ahead, self._depth = (), (), depth + 1
        try:
            return action(self)
        finally:
            self._board, self._behind, self._ahead, self._depth = board, behind, ahead, depth

    def undo(self):
        """Take the last edit back."""
        if len(self._behind) == 0:
            raise NothingToUndo()
        self._ahead = (*self._ahead, self._board)
        self._board = self._behind[-1]
        self._behind = self._behind[:-1]

    def redo(self):
        """Do again what was taken back last."""
        if len(self._ahead) == 0:
            raise NothingToRedo()
        self._behind = (*self._behind, self._board)
        self._board = self._ahead[-1]
        self._ahead = self._ahead[:-1]

    def lines(self):
        """The text of the file."""
        return "".join([item.head() + "\n" + text_of(item.lines) for item in self._board.rows])

    def item_names(self):
        """The names of all items."""
        return tuple(item.name for item in self._board.rows)

    def promises(self):
        """All promises that are made."""
        return self._board.promises

    def get_store(self, name):
        """The Store of an item."""
        check_string(name)
        item = self._item(name)
        if item.on is not None:
            raise NoName(name)
        return item.told

    def get_turns(self, name):
        """The Turns of an item."""
        check_string(name)
        item = self._item(name)
        if item.on is None:
            raise NoName(name)
        return item.told

    def holds(self, promise):
        """Whether a promise is kept by the items now, and its witness if it is not."""
        return verdict(self._board.rows, Promise(promise))

    def broken(self):
        """The pairs of a promise that is not kept now and its witness."""
        verdicts = [(made, verdict(self._board.rows, Promise(made))) for made in self._board.promises]
        return tuple((made, witness) for made, (kept, witness) in verdicts if not kept)

    def _item(self, name):
        """The item of a name."""
        for item in self._board.rows:
            if item.name == name:
                return item
        raise NoName(name)

    def _set(self, items, promises):
        """Make an edit; outside of attempts and trials promises must be kept."""
        if self._depth == 0:
            look_at(items, promises)
        self._behind = (*self._behind, self._board)
        self._ahead = ()
        self._board = Board(items, promises)


def check_string(name):
    """BadName if a value is no string."""
    if not isinstance(name, str):
        raise BadName(name)


def renamed_promise(promise, name, new):
    """A promise that names an item anew, if it is about this one."""
    told = Promise(promise).name
    return new + promise[len(name):] if told == name else promise
