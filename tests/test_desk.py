"""Points 64 to 70: the desk."""

import random
import re
import unittest

import plain
from anymend.demands import Bar, bar, greatest_file, lasts
from anymend.desk import Desk
from anymend.errors import (
    BadName, BadNumber, BadText, MendError, NoName, NotKept, NothingToRedo, NothingToUndo, TakenName)
from anymend.numbers import least_amount, least_room
from anymend.stores import Store
from anymend.turns import Turns, bar_by, lasts_by
from cases import NO_NUMBERS, NO_STRINGS, Case

S = """file 3
node a 2
node b 2
node c 2
mend ma a from b:1 c:1
mend mb b from a:1 c:1
reader a b
reader c b:1
"""

# Lasts one mend: after ab and bc the reader of c has one letter.
Q = """file 2
node a 2
node b 2
node c 2
mend ab b from a:1
mend bc c from b:2
pair p a b swap 0 from c:1 and c:2
reader c
reader a:1 b:1
"""

T = "state go on\nturn go ab on\n"

WHOLE = "turns t on q\n" + T + "store s\n" + S + "store q\n" + Q

ALL = (
    "s lasts ever", "s lasts 0", "q lasts 1", "q lasts 2", "q lasts ever", "t lasts ever", "t lasts 3", "s file 3 ever",
    "s file 4 0", "q file 2 1", "s room a 2 ever", "s room a 1 40", "s link ma a b 1 ever", "s link ma a b 0 2",
    "q link p b c 40 ever", "s reads 0 ever", "s reads 1 7", "q reads 0 ever", "q reads 1 1")


def text_of(name, on, lines):
    head = f"store {name}" if on is None else f"turns {name} on {on}"
    return "".join(line + "\n" for line in [head, *lines])


class DeskCase(Case):
    def state(self, desk):
        """All that a desk shows."""
        return desk.lines(), desk.promises(), desk.item_names()

    def depth(self, desk):
        """How many edits can be taken back and done again."""
        def count(step, error):
            many = 0
            while True:
                try:
                    step()
                except error:
                    return many
                many += 1

        back = count(desk.undo, NothingToUndo)
        whole = count(desk.redo, NothingToRedo)
        for _ in range(whole - back):
            desk.undo()
        return back, whole - back

    def refused_by(self, desk, error, fields, function, *arguments):
        """A call of a desk is refused and changes nothing."""
        before = self.state(desk), self.depth(desk)
        self.refused(error, fields, function, *arguments)
        self.assertEqual((self.state(desk), self.depth(desk)), before)

    def wrong_file(self, text, error, *fields):
        """A text of a file is refused by a new desk and by put."""
        self.refused(error, fields, Desk, text)
        self.refused_by(Desk(WHOLE), error, fields, Desk(WHOLE).put, text)


class FilesTest(DeskCase):
    def test_small(self):
        desk = Desk(WHOLE)
        self.assertEqual(desk.lines(), WHOLE)
        self.assertEqual(desk.item_names(), ("t", "s", "q"))
        self.assertEqual(desk.promises(), ())
        self.assertIsInstance(desk.get_store("s"), Store)
        self.assertEqual((desk.get_store("s").text, desk.get_store("q").text), (S, Q))
        self.assertIsInstance(desk.get_turns("t"), Turns)
        self.assertEqual(desk.get_turns("t").text, T)
        self.assertEqual(desk.get_turns("t").store.text, Q)
        self.assertEqual(Desk(text=WHOLE[:-1]).lines(), WHOLE)

    def test_no_items(self):
        for desk in (Desk(), Desk("")):
            self.assertEqual((desk.lines(), desk.item_names(), desk.promises(), desk.broken()), ("", (), (), ()))
            self.assertIsNone(desk.put(""))
            self.assertEqual(desk.lines(), "")

    def test_items_called_like_words(self):
        text = (
            "store store\nfile 1\nnode file 1\nreader file\nturns turns on store\nstate state turn\nturn * * turn\n"
            "store on\nfile 1\nnode on 1\nreader on\nturns lasts on on\nstate a\nstore ever\nfile 1\nnode a 1\nreader a\n")
        desk = Desk(text)
        self.assertEqual(desk.item_names(), ("store", "turns", "on", "lasts", "ever"))
        self.assertEqual(desk.lines(), text)
        for promise in ("store lasts ever", "lasts lasts ever", "turns lasts 3", "ever file 1 ever", "on room on 1 ever"):
            desk.keep(promise)
        self.assertEqual(desk.broken(), ())

    def test_wrong_head_lines(self):
        for value in NO_STRINGS:
            self.refused(BadText, (0, 0), Desk, value)
            self.refused_by(Desk(WHOLE), BadText, (0, 0), Desk(WHOLE).put, value)
        good = "store x\n" + S
        for text, line, column in (
                ("\n", 1, 1), (" ", 1, 1), ("file 3\n" + good, 1, 1), ("\n" + good, 1, 1), ("stores x\n", 1, 1),
                ("turn a b\n", 1, 1), ("Store x\n", 1, 1), (" store x\n", 1, 1), ("store", 1, 2), ("store \n", 1, 2),
                ("store  x\n", 1, 2), ("store X\n", 1, 2), ("store x y\n", 1, 3), ("store x \n", 1, 3),
                ("store x on q\n", 1, 3), (good + "store\n", 10, 2), (good + good, 10, 2),
                (good + "turns x on x\n" + T, 10, 2), (good + "turns y\n", 10, 3), (good + "turns y in x\n", 10, 3),
                (good + "turns y on\n", 10, 4), (good + "turns y on \n", 10, 4), (good + "turns y on X\n", 10, 4),
                (good + "turns y on x x\n", 10, 5), (good + "turns\n", 10, 2), (good + "turns 1y on x\n", 10, 2),
                # Heads go ahead of bodies and of stores that are missing.
                ("store x\nfile 99\nturns y on z\nstore x\n", 4, 2), ("store x\nturns y on z\nstate\nturns z on\n", 4, 4),
                ("store x1234567890123\n", 1, 2)):
            self.wrong_file(text, BadText, line, column)

    def test_wrong_bodies(self):
        good = "store x\n" + S
        for text, line, column in (
                ("store x\n", 2, 1), ("store x\n\n", 2, 1), ("store x\nfile 99\n", 2, 2), ("store x\nfile 3\nnode a 2\n", 4, 1),
                (good + "store y\n", 11, 1), (good + "store y\nfile 1\nnode a 1 1\n", 12, 4),
                (good + "turns y on x\n", 11, 1), (good + "turns y on x\nstate\n", 11, 2),
                (good + "turns y on x\nstate s\nturn s ma x\n", 12, 4), (good + "turns y on x\nstate s\n\n", 12, 1),
                # Stores go ahead of turns, in their order.
                ("turns y on x\nstate\nstore x\nfile 0\nreader\nstore z\nfile\n", 4, 2),
                ("turns y on w\nstate\nstore x\n" + S + "store z\nfile 3 4\n", 13, 3),
                ("turns y on x\nstate\nstore x\n" + S, 2, 2)):
            self.wrong_file(text, BadText, line, column)

    def test_stores_that_are_missing(self):
        for text, name in (
                ("turns y on x\nstate\n", "x"), ("turns y on y\nstate s\n", "y"),
                ("turns y on z\nstate s\nturns z on y\nstate s\n", "z"),
                ("turns v on x\nstate s\nturns y on w\nstate\nstore x\n" + S, "w")):
            self.wrong_file(text, NoName, name)

    def test_turns_on_stores_that_come_later(self):
        desk = Desk("turns y on x\nstate s\nturn s ma s\nstore x\n" + S)
        self.assertIs(desk.get_turns("y").store, desk.get_store("x"))


class PutTest(DeskCase):
    def test_places(self):
        desk = Desk(WHOLE)
        other = S.replace("file 3", "file 2")
        self.assertIsNone(desk.put("store r\n" + S + "store s\n" + other + "turns u on r\nstate x\n"))
        self.assertEqual(desk.item_names(), ("t", "s", "q", "r", "u"))
        self.assertEqual(desk.get_store("s").text, other)
        self.assertEqual(desk.lines(), (
            "turns t on q\n" + T + "store s\n" + other + "store q\n" + Q + "store r\n" + S + "turns u on r\nstate x\n"))

    def test_turns_on_stores_at_the_desk(self):
        desk = Desk("store s\n" + S)
        desk.put("turns u on s\nstate x\nturn x ma x")
        self.assertIs(desk.get_turns("u").store, desk.get_store("s"))
        self.refused_by(desk, BadText, (3, 3), desk.put, "turns v on s\nstate x\nturn x ab x\n")
        self.refused_by(desk, NoName, ("r",), desk.put, "turns v on r\nstate x\nturn x ab x\n")

    def test_turns_are_read_again(self):
        desk = Desk(WHOLE)
        desk.put("store q\n" + Q.replace("file 2", "file 1"))
        self.assertEqual(desk.get_turns("t").store.file, 1)
        self.assertIs(desk.get_turns("t").store, desk.get_store("q"))
        # Without the label ab line 2 of t is wrong, counted from its head line.
        self.refused_by(desk, BadText, (2, 3), desk.put, "store r\n" + S + "store q\n" + S)
        # With new turns all is well.
        desk.put("store q\n" + S + "turns t on q\nstate x\n")
        self.assertEqual(desk.get_turns("t").states, ("x",))

    def test_a_store_whose_name_turns_take(self):
        desk = Desk(WHOLE)
        self.refused_by(desk, NoName, ("q",), desk.put, "turns q on s\nstate x\n")
        self.refused_by(desk, NoName, ("q",), desk.put, "turns q on s\nstate x\nturns r on q\nstate x\n")
        desk.put("turns q on s\nstate x\nturns t on s\nstate y\n")
        self.assertEqual((desk.item_names(), desk.get_turns("t").store.text), (("t", "s", "q"), S))
        desk.put("store t\n" + S)
        self.assertEqual(desk.get_store("t").text, S)

    def test_the_order_of_errors(self):
        desk = Desk("turns t on q\n" + T + "store q\n" + Q)
        # Stores in the order of the desk: q is ahead of the new r.
        self.refused_by(desk, BadText, (4, 2), desk.put, "store r\nfile 0\nstore q\nfile 0\n")
        self.refused_by(desk, BadText, (2, 2), desk.put, "store r\nfile 0\nturns u on q\nstate\nstore q\n" + Q)
        # t at the desk is ahead of the new turns u and v.
        self.refused_by(desk, BadText, (2, 3), desk.put, "turns u on q\nstate\nstore q\n" + S + "turns v on x\nstate\n")
        self.refused_by(desk, BadText, (2, 2), desk.put, "turns u on q\nstate\nstore q\n" + Q + "turns v on x\nstate\n")
        self.refused_by(desk, NoName, ("x",), desk.put, "turns u on x\nstate\nstore q\n" + Q + "turns t on q\nstate a\n")


class EditTest(DeskCase):
    def test_lines(self):
        desk = Desk(WHOLE)
        self.assertIsNone(desk.edit("s", 1, "file 2"))
        self.assertEqual(desk.get_store("s").text, S.replace("file 3", "file 2"))
        desk.edit("s", 8, "reader c b:2")
        self.assertEqual(desk.get_store("s").readers[1], (("c", None), ("b", 2)))
        desk.edit("s", 9, "reader b c\nreader a c\n")
        self.assertEqual(len(desk.get_store("s").readers), 4)
        desk.edit("s", 9, "")
        self.assertEqual(desk.get_store("s").readers[2:], ((("a", None), ("c", None)),))
        desk.edit("s", 5, "mend ma a from b:2\nmend mc c from a:1")
        self.assertEqual([mend.label for mend in desk.get_store("s").mends], ["ma", "mc", "mb"])
        self.assertEqual(desk.item_names(), ("t", "s", "q"))
        before = desk.lines()
        desk.edit("s", 11, "")
        self.assertEqual(desk.lines(), before)

    def test_turns(self):
        desk = Desk(WHOLE)
        desk.edit("t", 3, "turn on * on")
        self.assertEqual(desk.get_turns("t").text, T + "turn on * on\n")
        desk.edit("t", 1, "state go on off")
        desk.edit("t", 2, "")
        self.assertEqual(desk.get_turns("t").text, "state go on off\nturn on * on\n")
        self.assertIs(desk.get_turns("t").store, desk.get_store("q"))

    def test_turns_are_read_again(self):
        desk = Desk(WHOLE)
        desk.edit("q", 1, "file 1")
        self.assertIs(desk.get_turns("t").store, desk.get_store("q"))
        self.refused_by(desk, BadText, (2, 3), desk.edit, "q", 5, "mend ax b from a:1")
        # The store itself goes ahead.
        self.refused_by(desk, BadText, (5, 4), desk.edit, "q", 5, "mend ax b for a:1")

    def test_lines_that_become_head_lines(self):
        desk = Desk(WHOLE)
        self.refused_by(desk, BadText, (3, 1), desk.edit, "t", 3, "store x")
        self.refused_by(desk, BadText, (4, 1), desk.edit, "t", 2, "turn\nwrong\nturns x on q")
        self.refused_by(desk, BadText, (1, 1), desk.edit, "t", 1, "store\nstate")
        self.refused_by(desk, BadText, (1, 1), desk.edit, "s", 1, "store x\nfile 3")
        self.refused_by(desk, BadText, (9, 1), desk.edit, "s", 9, "turns x on s")
        self.refused_by(desk, BadText, (1, 2), desk.edit, "s", 1, "file 0\nstore x")

    def test_wrong_bodies(self):
        desk = Desk(WHOLE)
        self.refused_by(desk, BadText, (1, 1), desk.edit, "s", 1, "")
        self.refused_by(desk, BadText, (9, 1), desk.edit, "s", 9, "\n")
        self.refused_by(desk, BadText, (3, 2), desk.edit, "s", 3, "node a 1")
        self.refused_by(desk, BadText, (1, 1), desk.edit, "t", 1, "")
        self.refused_by(desk, BadText, (2, 2), desk.edit, "t", 2, "turn x ab go")

    def test_errors(self):
        desk = Desk(WHOLE)
        for value in NO_STRINGS:
            self.refused_by(desk, BadName, (value,), desk.edit, value, None, None)
            self.refused_by(desk, BadText, (0, 0), desk.edit, "x", None, value)
        for name in ("", "x", "store s", "S"):
            self.refused_by(desk, NoName, (name,), desk.edit, name, 0, "file 0")
        for value in NO_NUMBERS + [None, 0, -1, 10, 10 ** 30]:
            self.refused_by(desk, BadNumber, ("line", value), desk.edit, "s", value, "file 0")
        self.refused_by(desk, BadNumber, ("line", 4), desk.edit, "t", 4, "")


class DropTest(DeskCase):
    def test_drop(self):
        desk = Desk(WHOLE)
        for promise in ("s lasts ever", "q lasts 1", "t lasts ever", "s file 1 0"):
            desk.keep(promise)
        self.refused_by(desk, TakenName, ("t",), desk.drop, "q")
        self.assertIsNone(desk.drop("s"))
        self.assertEqual((desk.item_names(), desk.promises()), (("t", "q"), ("q lasts 1", "t lasts ever")))
        desk.drop("t")
        desk.drop("q")
        self.assertEqual(self.state(desk), ("", (), ()))
        desk.undo()
        self.assertEqual((desk.item_names(), desk.promises()), (("q",), ("q lasts 1",)))

    def test_the_first_turns(self):
        desk = Desk("turns b on q\n" + T + "store q\n" + Q + "turns a on q\n" + T)
        self.refused_by(desk, TakenName, ("b",), desk.drop, "q")
        desk.drop("b")
        self.refused_by(desk, TakenName, ("a",), desk.drop, "q")

    def test_errors(self):
        desk = Desk(WHOLE)
        for value in NO_STRINGS:
            self.refused_by(desk, BadName, (value,), desk.drop, value)
        for name in ("", "x", "Q"):
            self.refused_by(desk, NoName, (name,), desk.drop, name)


class RenameTest(DeskCase):
    def test_rename(self):
        desk = Desk(WHOLE)
        for promise in ("s room a 2 ever", "q lasts 1", "t lasts ever"):
            desk.keep(promise)
        self.assertIsNone(desk.rename("q", "a"))
        self.assertEqual(desk.item_names(), ("t", "s", "a"))
        self.assertEqual(desk.lines(), WHOLE.replace("on q\n", "on a\n").replace("store q\n", "store a\n"))
        self.assertEqual(desk.promises(), ("s room a 2 ever", "a lasts 1", "t lasts ever"))
        # Nodes and states that are called so keep their names.
        desk.rename("a", "b")
        desk.rename("t", "a")
        self.assertEqual(desk.promises(), ("s room a 2 ever", "b lasts 1", "a lasts ever"))
        self.assertEqual(desk.get_turns("a").states, ("go", "on"))
        self.assertEqual((desk.get_store("b").text, desk.get_store("s").text), (Q, S))
        self.refused_by(desk, NotKept, None, desk.edit, "b", 1, "file 3")
        desk.rename("b", "abcdefghijkl")
        self.assertEqual(desk.promises()[1], "abcdefghijkl lasts 1")

    def refused_by(self, desk, error, fields, function, *arguments):
        if fields is None:
            with self.assertRaises(error):
                function(*arguments)
        else:
            DeskCase.refused_by(self, desk, error, fields, function, *arguments)

    def test_errors(self):
        desk = Desk(WHOLE)
        for value in NO_STRINGS + ["", "A", "1a", "abcdefghijklm", "a b", "a\n", "a:1"]:
            self.refused_by(desk, BadName, (value,), desk.rename, None, value)
            self.refused_by(desk, BadName, (value,), desk.rename, "x", value)
            if not isinstance(value, str):
                self.refused_by(desk, BadName, (value,), desk.rename, value, "s")
        for name in ("", "x", "A"):
            self.refused_by(desk, NoName, (name,), desk.rename, name, "s")
        for new in ("t", "s", "q"):
            self.refused_by(desk, TakenName, (new,), desk.rename, "s", new)


class PromiseTest(DeskCase):
    def check_bar(self, store, found):
        """A Bar that adds up."""
        self.assertIsInstance(found, Bar)
        lot, cost = found.lot, plain.start(store, found.lot)
        for label, taken in zip(found.history, found.taken):
            ((_, _, lot, more),) = [step for step in plain.steps(store, lot) if step[:2] == (label, taken)]
            cost += more
        self.assertEqual(found.total, cost + plain.limits(store, found.reader, lot))
        self.assertLess(found.total, store.file)

    def told(self, desk, promise):
        """Whether a promise is kept, and its witness, word by word."""
        words = promise.split(" ")
        mends = None if words[-1] == "ever" else int(words[-1])
        if words[1] == "lasts":
            thing = desk.get_turns(words[0]) if words[0] == "t" else desk.get_store(words[0])
            many = (lasts_by if words[0] == "t" else lasts)(thing)
            kept = many is None or (mends is not None and many >= mends)
            return kept, None if kept else (bar_by if words[0] == "t" else bar)(thing, mends)
        store = desk.get_store(words[0])
        if words[1] == "file":
            witness = greatest_file(store, mends)
            kept = witness >= int(words[2])
        elif words[1] == "reads":
            enough = plain.enough(store) if mends is None else min(mends, plain.enough(store))
            table = plain.ways(store, int(words[2]), enough)
            witness = min(plain.start(store, lot) + way for lot, way in table.items() if way is not None)
            kept = witness >= store.file
        else:
            asked = words[2:-2]
            witness = (least_room if words[1] == "room" else least_amount)(store, *asked, mends)
            kept = witness is not None and witness <= int(words[-2])
        return kept, None if kept else witness

    def check(self, desk, promise):
        found, expected = desk.holds(promise), self.told(desk, promise)
        self.assertIsInstance(found, tuple)
        self.assertIs(found[0], expected[0], promise)
        if isinstance(expected[1], Bar):
            self.assertEqual(len(found[1].history), len(expected[1].history))
            self.check_bar(expected[1] and desk.get_turns("t").store if promise[0] == "t" else desk.get_store(promise[0]), found[1])
        else:
            self.assertEqual(found[1], expected[1], promise)
        return found[0]

    def test_each_kind(self):
        kinds = {}
        for file in (1, 2, 3, 4, 6):
            desk = Desk(WHOLE)
            desk.edit("s", 1, f"file {file}")
            desk.edit("q", 1, f"file {file}")
            for promise in ALL:
                kinds.setdefault(promise.split(" ")[1], set()).add(self.check(desk, promise))
        self.assertEqual(kinds, {kind: {True, False} for kind in ("lasts", "file", "room", "link", "reads")})

    def test_small(self):
        desk = Desk(WHOLE)
        self.assertEqual(desk.holds("s file 3 ever"), (True, None))
        self.assertEqual(desk.holds("s file 4 ever"), (False, 3))
        self.assertEqual(desk.holds("s file 04 00"), (False, 3))
        self.assertEqual(desk.holds("s room a 1 ever"), (False, 2))
        self.assertEqual(desk.holds("s link ma a b 0 ever"), (False, 1))
        self.assertEqual(desk.holds("q room a 40 ever"), (False, None))
        self.assertEqual(desk.holds("q reads 0 ever"), (False, 1))
        self.assertEqual(desk.holds("q reads 00 1"), (True, None))
        kept, witness = desk.holds("q lasts 2")
        self.assertFalse(kept)
        self.assertEqual((witness.history, witness.total), (("ab", "bc"), 1))
        self.assertEqual(desk.holds("t lasts 40"), (True, None))
        desk.edit("t", 3, "turn on bc on")
        kept, witness = desk.holds("t lasts 40")
        self.assertEqual((kept, witness.history), (False, ("ab", "bc")))

    def test_wrong_texts(self):
        desk = Desk(WHOLE)
        for value in NO_STRINGS:
            for function in (desk.keep, desk.holds, desk.release):
                self.refused_by(desk, BadText, (0, 0), function, value)
        for text, column in (
                ("", 1), (" ", 1), ("S lasts ever", 1), ("1 lasts ever", 1), ("s", 2), ("s ", 2), ("s Lasts ever", 2),
                ("s last ever", 2), ("s  lasts ever", 2), ("s lasts", 3), ("s lasts Ever", 3), ("s lasts 41", 3),
                ("s lasts -1", 3), ("s lasts ever ", 4), ("s lasts 3 4", 4), ("s lasts ever\n", 3), ("s file", 3),
                ("s file 41 ever", 3), ("s file ever", 3), ("s file 3", 4), ("s file 3 ever ever", 5), ("s file 00003 1", 3),
                ("s room", 3), ("s room A 3 ever", 3), ("s room a", 4), ("s room a x ever", 4), ("s room a 3", 5),
                ("s room a 3 3 3", 6), ("s link ma a", 5), ("s link ma a b", 6), ("s link ma a b 1", 7), ("s link 1 a b 1 ever", 3),
                ("s link ma 1 b 1 ever", 4), ("s link ma a 1 1 ever", 5), ("s link ma a b ever 1", 6), ("s link ma a b 1 41", 7),
                ("s link ma a b 1 ever x", 8), ("s reads", 3), ("s reads ever", 3), ("s reads -1 ever", 3), ("s reads 10000 1", 3),
                ("s reads 9999", 4), ("s reads 0 41", 4), ("s reads 0 ever 1", 5), ("x lasts", 3), ("x file 3 ever 1", 5)):
            for function in (desk.keep, desk.holds):
                self.refused_by(desk, BadText, (1, column), function, text)

    def test_what_can_not_be_asked(self):
        desk = Desk(WHOLE)
        for text, error, fields in (
                ("x lasts ever", NoName, ("x",)), ("x room y 3 ever", NoName, ("x",)), ("t file 3 ever", NoName, ("t",)),
                ("t room a 3 ever", NoName, ("t",)), ("t reads 9 ever", NoName, ("t",)), ("x link y z w 1 1", NoName, ("x",)),
                ("s room d 3 ever", NoName, ("d",)), ("s room ma 3 ever", NoName, ("ma",)), ("s link mx x y 1 ever", NoName, ("mx",)),
                ("s link a x y 1 ever", NoName, ("a",)), ("s link ma x y 1 ever", NoName, ("x",)),
                ("s link ma b y 1 ever", NoName, ("y",)), ("s link ma b c 1 ever", NoName, ("b",)),
                ("s link ma a a 1 ever", NoName, ("a",)), ("q link p c b 1 ever", NoName, ("c",)),
                ("q link p a b 1 ever", NoName, ("b",)), ("s reads 2 ever", BadNumber, ("reader", 2)),
                ("s reads 0002 ever", BadNumber, ("reader", 2)), ("s reads 9999 ever", BadNumber, ("reader", 9999))):
            for function in (desk.keep, desk.holds):
                self.refused_by(desk, error, fields, function, text)

    def test_keep_and_release(self):
        desk = Desk(WHOLE)
        self.assertIsNone(desk.keep("s lasts ever"))
        self.assertIsNone(desk.keep("q lasts 1"))
        self.assertIsNone(desk.keep("s lasts ever"))
        self.assertEqual(desk.promises(), ("s lasts ever", "q lasts 1"))
        desk.keep("q lasts 01")
        self.assertEqual(desk.promises(), ("s lasts ever", "q lasts 1", "q lasts 01"))
        for text in ("", "q lasts 001", "no promise", "q lasts 0"):
            self.refused_by(desk, NoName, (text,), desk.release, text)
        self.assertIsNone(desk.release("q lasts 1"))
        self.assertEqual(desk.promises(), ("s lasts ever", "q lasts 01"))
        # What is not kept is not made.
        with self.assertRaises(NotKept) as caught:
            desk.keep("q lasts 2")
        self.assertEqual(caught.exception.promise, "q lasts 2")
        self.check_bar(desk.get_store("q"), caught.exception.witness)
        self.refused_by(desk, NotKept, ("s file 4 ever", 3), desk.keep, "s file 4 ever")
        self.refused_by(desk, NotKept, ("q room a 40 ever", None), desk.keep, "q room a 40 ever")
        self.assertEqual(desk.promises(), ("s lasts ever", "q lasts 01"))

    def test_promises_behind_edits(self):
        desk = Desk(WHOLE)
        for promise in ("s room a 2 ever", "s file 3 ever", "s reads 1 ever", "s link mb b a 1 0"):
            desk.keep(promise)
        # In the order in which they were made, errors and promises that are not kept alike.
        self.refused_by(desk, NotKept, ("s room a 2 ever", None), desk.edit, "s", 4, "node c 1")
        less = "store s\n" + S.replace("file 3", "file 2").replace("node c 2", "node c 1")
        self.refused_by(desk, NotKept, ("s file 3 ever", 2), desk.put, less)
        self.refused_by(desk, NoName, ("mb",), desk.edit, "s", 6, "mend mx b from a:1 c:1")
        self.refused_by(desk, BadNumber, ("reader", 1), desk.edit, "s", 8, "")
        self.refused_by(desk, NoName, ("s",), desk.put, "turns s on q\nstate x\n")
        desk.release("s room a 2 ever")
        desk.keep("s room a 2 ever")
        self.refused_by(desk, NoName, ("mb",), desk.attempt, lambda inner: inner.edit("s", 6, ""))

    def test_turns_that_take_a_name(self):
        desk = Desk("store s\n" + S + "store q\n" + Q)
        desk.keep("s lasts ever")
        desk.put("turns s on q\nstate x\n")
        self.assertEqual(desk.broken(), ())
        self.refused_by(desk, NotKept, None, desk.put, "turns s on q\nstate x\nturn * * x\n")

    def refused_by(self, desk, error, fields, function, *arguments):
        if fields is None:
            before = self.state(desk)
            with self.assertRaises(error):
                function(*arguments)
            self.assertEqual(self.state(desk), before)
        else:
            DeskCase.refused_by(self, desk, error, fields, function, *arguments)

    def test_broken(self):
        desk = Desk(WHOLE)

        def action(inner):
            for promise in ALL:
                inner.keep(promise)
            self.assertEqual(inner.promises(), ALL)
            self.assertEqual([promise for promise, _ in inner.broken()], [
                promise for promise in ALL if not self.told(inner, promise)[0]])
            for promise, witness in inner.broken():
                if isinstance(witness, Bar):
                    self.assertEqual(vars(witness), vars(inner.holds(promise)[1]))
                else:
                    self.assertEqual((False, witness), inner.holds(promise))
            inner.edit("s", 8, "reader c\n")
            inner.edit("s", 7, "")
            self.refused(BadNumber, ("reader", 1), inner.broken)

        self.assertIsNone(desk.trial(action))
        self.assertEqual(desk.promises(), ())


class UndoTest(DeskCase):
    def test_undo_and_redo(self):
        desk = Desk(WHOLE)
        self.refused(NothingToUndo, (), desk.undo)
        self.refused(NothingToRedo, (), desk.redo)
        states = [self.state(desk)]
        for step in (
                lambda: desk.put("store r\n" + S), lambda: desk.edit("r", 1, "file 2"), lambda: desk.keep("r lasts ever"),
                lambda: desk.keep("r lasts ever"), lambda: desk.rename("r", "w"), lambda: desk.put(""),
                lambda: desk.release("w lasts ever"), lambda: desk.drop("w"), lambda: desk.attempt(lambda inner: None)):
            step()
            states.append(self.state(desk))
        for state in reversed(states[:-1]):
            self.assertIsNone(desk.undo())
            self.assertEqual(self.state(desk), state)
        self.refused(NothingToUndo, (), desk.undo)
        for state in states[1:]:
            self.assertIsNone(desk.redo())
            self.assertEqual(self.state(desk), state)
        self.refused(NothingToRedo, (), desk.redo)
        desk.undo()
        desk.undo()
        # What is refused is no edit; what changes nothing is one.
        self.refused(NoName, ("x",), desk.drop, "x")
        desk.redo()
        desk.keep("s lasts ever")
        self.refused(NothingToRedo, (), desk.redo)

    def test_stores_come_back(self):
        desk = Desk(WHOLE)
        one = desk.get_store("s")
        desk.edit("s", 1, "file 1")
        self.assertEqual((one.file, desk.get_store("s").file), (3, 1))
        desk.undo()
        self.assertEqual(desk.get_store("s").file, 3)


class ActionTest(DeskCase):
    def test_an_attempt_is_one_edit(self):
        desk = Desk(WHOLE)

        def action(inner):
            self.assertIs(inner, desk)
            inner.edit("s", 1, "file 4")
            desk.keep("s lasts ever")
            self.assertEqual([promise for promise, _ in desk.broken()], ["s lasts ever"])
            inner.edit("s", 1, "file 2")
            return 7

        self.assertEqual(desk.attempt(action), 7)
        self.assertEqual((desk.get_store("s").file, desk.promises(), self.depth(desk)), (2, ("s lasts ever",), (1, 0)))
        desk.undo()
        self.assertEqual(self.state(desk), self.state(Desk(WHOLE)))
        desk.redo()
        self.assertEqual(desk.get_store("s").file, 2)
        # One without an edit is an edit, too.
        self.assertEqual(desk.attempt(lambda inner: "x"), "x")
        self.assertEqual(self.depth(desk), (2, 0))

    def test_attempts_that_fail(self):
        class Strange(BaseException):
            pass

        desk = Desk(WHOLE)
        desk.keep("s lasts ever")
        desk.edit("s", 1, "file 2")
        desk.undo()
        before = self.state(desk), self.depth(desk)
        self.assertEqual(before[1], (1, 1))

        def failing(error):
            def action(inner):
                inner.drop("t")
                inner.undo()
                inner.edit("s", 1, "file 1")
                raise error
            return action

        for error in (KeyError("x"), Strange(), NoName("y"), NotKept("z", None), SystemExit(3)):
            with self.assertRaises(type(error)) as caught:
                desk.attempt(failing(error))
            self.assertIs(caught.exception, error)
            self.assertEqual((self.state(desk), self.depth(desk)), before)
        # An error of the desk itself, and promises at the end.
        self.refused_by(desk, NoName, ("x",), desk.attempt, lambda inner: (inner.put("store r\n" + S), inner.drop("x")))
        with self.assertRaises(NotKept) as caught:
            desk.attempt(lambda inner: inner.edit("s", 1, "file 4"))
        self.assertEqual((caught.exception.promise, caught.exception.witness.total), ("s lasts ever", 3))
        self.assertEqual((self.state(desk), self.depth(desk)), before)
        # What the action has caught changes nothing either.
        def careful(inner):
            self.refused(NoName, ("x",), inner.drop, "x")
            inner.drop("t")

        desk.attempt(careful)
        self.assertEqual(self.depth(desk), (2, 0))

    def test_undo_within_an_attempt(self):
        desk = Desk(WHOLE)
        desk.edit("s", 1, "file 2")
        desk.edit("s", 1, "file 1")
        desk.undo()

        def action(inner):
            self.refused(NothingToUndo, (), inner.undo)
            self.refused(NothingToRedo, (), inner.redo)
            inner.edit("s", 1, "file 40")
            inner.drop("t")
            inner.undo()
            inner.undo()
            self.refused(NothingToUndo, (), desk.undo)
            inner.redo()
            inner.redo()
            self.refused(NothingToRedo, (), inner.redo)
            inner.undo()
            return self.state(inner)

        behind = desk.attempt(action)
        self.assertEqual(self.state(desk), behind)
        self.assertEqual((desk.get_store("s").file, self.depth(desk)), (40, (2, 0)))
        desk.undo()
        self.assertEqual(desk.get_store("s").file, 2)

    def test_promises_within_an_attempt(self):
        desk = Desk(WHOLE)
        desk.keep("s lasts ever")

        def action(inner):
            inner.edit("s", 1, "file 4")
            # keep looks at its own errors at once, but not whether promises are kept.
            self.refused(NoName, ("d",), inner.keep, "s room d 1 ever")
            self.refused(BadText, (1, 3), inner.keep, "s lasts")
            inner.keep("s file 40 ever")
            inner.keep("q lasts ever")
            inner.undo()
            inner.release("s lasts ever")
            self.assertEqual(inner.attempt(lambda one: one.edit("s", 1, "file 5") or 3), 3)

        with self.assertRaises(NotKept) as caught:
            desk.attempt(action)
        self.assertEqual((caught.exception.promise, caught.exception.witness), ("s file 40 ever", 3))
        self.assertEqual(desk.promises(), ("s lasts ever",))
        desk.attempt(lambda inner: (action(inner), inner.release("s file 40 ever")))
        self.assertEqual((desk.promises(), desk.get_store("s").file), ((), 5))

    def test_promises_that_can_not_be_asked_at_the_end(self):
        desk = Desk(WHOLE)
        desk.keep("s reads 1 ever")
        desk.keep("s room a 2 ever")
        self.refused_by(desk, BadNumber, ("reader", 1), desk.attempt, lambda inner: inner.edit("s", 8, ""))

    def test_trials(self):
        desk = Desk(WHOLE)
        desk.keep("s lasts ever")
        desk.edit("s", 1, "file 2")
        desk.undo()
        before = self.state(desk), self.depth(desk)

        def action(inner):
            self.assertIs(inner, desk)
            self.refused(NothingToUndo, (), inner.undo)
            self.refused(NothingToRedo, (), inner.redo)
            inner.edit("s", 1, "file 40")
            # No promises are looked at, also not behind an attempt within.
            inner.attempt(lambda one: one.edit("s", 1, "file 39"))
            inner.keep("s file 39 ever")
            inner.undo()
            inner.undo()
            self.assertEqual(desk.get_store("s").file, 40)
            inner.redo()
            return desk.get_store("s").file, desk.broken()[0][0]

        self.assertEqual(desk.trial(action), (39, "s lasts ever"))
        self.assertEqual((self.state(desk), self.depth(desk)), before)
        for error in (KeyError("x"), NoName("y"), KeyboardInterrupt()):
            def failing(inner):
                inner.drop("t")
                raise error

            with self.assertRaises(type(error)) as caught:
                desk.trial(failing)
            self.assertIs(caught.exception, error)
            self.assertEqual((self.state(desk), self.depth(desk)), before)
        # A trial is no edit: what was taken back can still be done again.
        desk.redo()
        self.assertEqual(desk.get_store("s").file, 2)

    def test_within_one_another(self):
        desk = Desk(WHOLE)
        desk.keep("s lasts ever")

        def deep(inner):
            inner.edit("s", 1, "file 40")
            try:
                inner.attempt(lambda one: (one.drop("t"), one.drop("t")))
            except NoName:
                pass
            self.assertEqual(desk.item_names(), ("t", "s", "q"))
            inner.trial(lambda one: (one.drop("t"), one.edit("s", 1, "file 7")))
            self.assertEqual((desk.item_names(), desk.get_store("s").file), (("t", "s", "q"), 40))
            inner.attempt(lambda one: one.attempt(lambda two: two.drop("t")))
            inner.undo()
            inner.redo()
            self.refused(NothingToRedo, (), inner.redo)
            inner.edit("s", 1, "file 1")

        desk.attempt(deep)
        self.assertEqual((desk.item_names(), desk.get_store("s").file, self.depth(desk)), (("s", "q"), 1, (2, 0)))
        # Behind all of them promises are looked at again.
        self.refused_by(desk, NotKept, ("s lasts ever",), desk.edit, "s", 1, "file 4")

    def refused_by(self, desk, error, fields, function, *arguments):
        if error is not NotKept:
            return DeskCase.refused_by(self, desk, error, fields, function, *arguments)
        before = self.state(desk), self.depth(desk)
        with self.assertRaises(error) as caught:
            function(*arguments)
        self.assertEqual(caught.exception.promise, fields[0])
        self.assertEqual((self.state(desk), self.depth(desk)), before)


class NamesTest(DeskCase):
    def test_get(self):
        desk = Desk(WHOLE)
        for value in NO_STRINGS:
            self.refused(BadName, (value,), desk.get_store, value)
            self.refused(BadName, (value,), desk.get_turns, value)
        for name in ("", "x", "t", "S"):
            self.refused(NoName, (name,), desk.get_store, name)
        for name in ("", "x", "s", "q", "T"):
            self.refused(NoName, (name,), desk.get_turns, name)


class Model:
    """A desk told word by word, with whole copies of all that stands."""

    def __init__(self):
        self.items, self.promises = [], []
        self.behind, self.ahead = [], []

    def now(self):
        return [tuple(item) for item in self.items], list(self.promises)

    def edited(self, items, promises):
        self.behind.append(self.now())
        self.ahead = []
        self.items, self.promises = items, promises

    def step(self, back, forth, error):
        if not back:
            raise error()
        forth.append(self.now())
        items, promises = back.pop()
        self.items, self.promises = [list(item) for item in items], promises

    def text(self):
        return "".join(text_of(name, on, lines) for name, on, lines in self.items)


class ModelTest(DeskCase):
    def test_by_chance(self):
        chance = random.Random(68)
        errors = {}
        for _ in range(25):
            desk, model = Desk(), Model()
            for _ in range(60):
                before = self.state(desk)
                try:
                    self.one_step(chance, desk, model)
                except MendError as error:
                    errors[type(error).__name__] = errors.get(type(error).__name__, 0) + 1
                    self.assertEqual(self.state(desk), before)
                self.assertEqual(desk.lines(), model.text())
                self.assertEqual(desk.promises(), tuple(model.promises))
                self.assertEqual(self.depth(desk), (len(model.behind), len(model.ahead)))
                self.assertEqual(desk.broken(), ())
                # The text of the desk is that of a file that tells the same.
                self.assertEqual(Desk(desk.lines()).lines(), desk.lines())
        self.assertTrue({"NotKept", "NoName", "TakenName", "NothingToUndo", "NothingToRedo"} <= set(errors), errors)

    def one_step(self, chance, desk, model):
        """The same step at the desk and at its model; what the desk refuses the model does not do."""
        names = [item[0] for item in model.items]
        name, new = chance.choice(["s", "q", "r", "w"]), chance.choice(["s", "q", "r", "w"])
        kind = chance.choice(["put", "turns", "edit", "drop", "rename", "keep", "keep", "release", "undo", "redo", "redo"])
        copied = [list(item) for item in model.items]
        if kind in ("put", "turns"):
            on = new if kind == "turns" else None
            lines = chance.choice([S, Q]).splitlines() if on is None else ["state x", "turn * * x"][:chance.randint(1, 2)]
            desk.put(text_of(name, on, lines))
            if name in names:
                copied[names.index(name)] = [name, on, lines]
            else:
                copied.append([name, on, lines])
            model.edited(copied, list(model.promises))
        elif kind == "edit":
            desk.edit(name, 1, f"file {chance.randint(1, 3)}")
            lines = desk.get_store(name).text.splitlines()
            copied[names.index(name)][2] = lines
            model.edited(copied, list(model.promises))
        elif kind == "drop":
            desk.drop(name)
            model.edited(
                [item for item in copied if item[0] != name],
                [promise for promise in model.promises if promise.split(" ")[0] != name])
        elif kind == "rename":
            desk.rename(name, new)
            model.edited(
                [[new if item[0] == name else item[0], new if item[1] == name else item[1], item[2]] for item in copied],
                [re.sub(f"^{name} ", f"{new} ", promise) for promise in model.promises])
        elif kind == "keep":
            promise = name + chance.choice([" lasts ever", " lasts 1", " file 2 1", " room a 2 ever", " reads 1 3"])
            desk.keep(promise)
            made = list(model.promises)
            model.edited(copied, made if promise in made else made + [promise])
        elif kind == "release":
            promise = chance.choice(model.promises + ["s lasts ever"])
            desk.release(promise)
            model.edited(copied, [made for made in model.promises if made != promise])
        elif kind == "undo":
            desk.undo()
            model.step(model.behind, model.ahead, NothingToUndo)
        else:
            desk.redo()
            model.step(model.ahead, model.behind, NothingToRedo)


class LimitsTest(DeskCase):
    def test_twelve_items_and_promises(self):
        chance = random.Random(70)
        texts = []
        for k in range(6):
            text = plain.strong_text(chance, 6, 12, 8, 8, 1 + k)
            store = Store(text)
            texts += [f"store s{k}\n" + text, f"turns t{k} on s{k}\nstate x y\nturn * * y\n"]
            self.assertLessEqual(len(text.splitlines()), 40)
            self.assertGreaterEqual(greatest_file(store), 0)
        desk = Desk("".join(texts))
        made = 0
        for k in range(6):
            for promise in (f"s{k} lasts ever", f"t{k} lasts 40", f"s{k} room a 40 ever", f"s{k} reads 7 ever"):
                if made < 12 and desk.holds(promise)[0]:
                    desk.keep(promise)
                    made += 1
        self.assertEqual(len(desk.promises()), 12)
        for k in range(6):
            desk.rename(f"s{k}", f"r{k}")
        desk.put("".join(texts).replace("store s", "store r").replace("on s", "on r"))
        self.assertEqual(desk.broken(), ())
        self.assertEqual(self.depth(desk), (19, 0))


if __name__ == "__main__":
    unittest.main()
