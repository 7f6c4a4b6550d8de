"""Points 6 to 12: store texts, their errors, Store, Mend, written."""

import copy
import random
import re
import unittest

import plain
from anymend.errors import BadName, BadText, NoName
from anymend.stores import Mend, Store, written

NO_STRINGS = [None, True, False, 0, 5, 1.5, b"file 1", [], ["file 1"], ("file 1",), {}, {"file": 1}, set(), object(), str]

SMALL = "file 3\nnode a 2\nreader a\n"

WHOLE = """file 4
node a 2
new b 3
node c 40
node d 0
mend one a from b:1 c:40
pair two a b swap 0 from c:2 and d:3 c:1
mend b b from d:7
reader a b:0 c:40
reader d
"""

LINES = WHOLE.splitlines()


def changed(number, line):
    """WHOLE with another line in the place of a line."""
    return "\n".join(LINES[:number - 1] + [line] + LINES[number:]) + "\n"


def wrong_at(text):
    """Where a text is wrong, or None: the words of points 6 and 8, place by place, by patterns."""
    name = "[a-z][a-z0-9]{0,11}"
    lines = text.split("\n")
    if lines[-1] == "":
        lines = lines[:-1]
    nodes, labels, stage = [], [], "file"
    standing = False
    for number, line in enumerate(lines, 1):
        words = line.split(" ")
        firsts = {"file": ["file"], "nodes": [], "mends": ["mend", "pair", "reader"], "readers": ["reader"]}[stage][:]
        if stage == "nodes":
            firsts += ["node", "new"] if len(nodes) < 7 else []
            firsts += ["mend", "pair", "reader"] if standing else []
        if words[0] not in firsts:
            return (number, 1)
        allowed = {
            "file": [to_40(1)],
            "node": [lambda word: re.fullmatch(name, word) and word not in nodes, to_40(0)],
            "new": [lambda word: re.fullmatch(name, word) and word not in nodes, to_40(0)],
            "mend": [lambda word: re.fullmatch(name, word) and word not in labels, lambda word: word in nodes,
                     lambda word: word == "from"],
            "pair": [lambda word: re.fullmatch(name, word) and word not in labels, lambda word: word in nodes,
                     lambda word: word in nodes and word != words[2], lambda word: word == "swap", to_40(0),
                     lambda word: word == "from"],
            "reader": [],
        }[words[0]]
        for at, right in enumerate(allowed, 1):
            if at >= len(words) or not right(words[at]):
                return (number, at + 1)
        rest = words[len(allowed) + 1:]
        at = wrong_rest(words, rest, nodes)
        if at is not None:
            return (number, len(allowed) + 2 + at)
        if words[0] in ("node", "new"):
            nodes.append(words[1])
            standing = standing or words[0] == "node"
        if words[0] in ("mend", "pair"):
            labels.append(words[1])
        stage = {"file": "nodes", "node": "nodes", "new": "nodes", "mend": "mends", "pair": "mends",
                 "reader": "readers"}[words[0]]
    return None if stage == "readers" else (len(lines) + 1, 1)


def to_40(least):
    return lambda word: re.fullmatch("[0-9]{1,4}", word, re.ASCII) and least <= int(word) <= 40


def wrong_rest(words, rest, nodes):
    """Which of the words behind those at fixed places is wrong."""
    if words[0] in ("file", "node", "new"):
        return 0 if rest else None
    barred = {"mend": words[2:3], "pair": words[2:4], "reader": []}[words[0]]
    row, closed = [], words[0] != "pair"
    for at, word in enumerate(rest):
        if word == "and" and not closed and row:
            row, closed = [], True
            continue
        form = "([^:]*):([0-9]{1,4})" if words[0] != "reader" else "([^:]*)(?::([0-9]{1,4}))?"
        match = re.fullmatch(form, word, re.ASCII)
        if not match or match[1] not in nodes or match[1] in barred + row:
            return at
        if match[2] and not (0 if words[0] == "reader" else 1) <= int(match[2]) <= 40:
            return at
        row.append(match[1])
    return None if row and closed else len(rest)


class Case(unittest.TestCase):
    def refused(self, text, line, column):
        with self.assertRaises(BadText) as caught:
            Store(text)
        self.assertEqual((caught.exception.line, caught.exception.column), (line, column), text)


class StoreTest(Case):
    def test_attributes(self):
        store = Store(WHOLE)
        self.assertEqual(store.text, WHOLE)
        self.assertEqual(store.file, 4)
        self.assertEqual(store.nodes, ("a", "b", "c", "d"))
        self.assertEqual(store.rooms, (2, 3, 40, 0))
        self.assertEqual(store.readers, ((("a", None), ("b", 0), ("c", 40)), (("d", None),)))
        self.assertIsInstance(store.mends, tuple)
        self.assertTrue(all(isinstance(mend, Mend) for mend in store.mends))
        self.assertEqual([vars(mend) for mend in store.mends], [
            {"label": "one", "kind": "one", "nodes": ("a",), "helpers": ("b", "c"), "amounts": (1, 40), "swap": None},
            {"label": "two", "kind": "pair", "nodes": ("a", "b"), "helpers": (("c",), ("d", "c")),
             "amounts": ((2,), (3, 1)), "swap": 0},
            {"label": "b", "kind": "one", "nodes": ("b",), "helpers": ("d",), "amounts": (7,), "swap": None},
        ])

    def test_a_store_without_mends(self):
        store = Store(SMALL)
        self.assertEqual(
            (store.file, store.nodes, store.rooms, store.mends, store.readers),
            (3, ("a",), (2,), (), ((("a", None),),)))

    def test_is_new(self):
        store = Store(WHOLE)
        self.assertEqual([store.is_new(name) for name in store.nodes], [False, True, False, False])
        for value in NO_STRINGS:
            with self.assertRaises(BadName) as caught:
                store.is_new(value)
            self.assertIs(caught.exception.name, value)
        for value in ("", "e", "A", "one", "two", "a ", "a:1", "file"):
            with self.assertRaises(NoName) as caught:
                store.is_new(value)
            self.assertEqual(caught.exception.name, value)

    def test_mend_of(self):
        store = Store(WHOLE)
        for mend in store.mends:
            self.assertIs(store.mend_of(mend.label), mend)
        # "b" is a node and a label; "a" is a node only.
        self.assertEqual(store.mend_of("b").helpers, ("d",))
        for value in NO_STRINGS:
            with self.assertRaises(BadName) as caught:
                store.mend_of(value)
            self.assertIs(caught.exception.name, value)
        for value in ("", "a", "c", "One", "three", "one "):
            with self.assertRaises(NoName) as caught:
                store.mend_of(value)
            self.assertEqual(caught.exception.name, value)

    def test_mend_is_created_from_its_fields(self):
        mend = Mend("x", "pair", ("a", "b"), (("c",), ("d",)), ((1,), (2,)), 3)
        self.assertEqual(
            (mend.label, mend.kind, mend.nodes, mend.helpers, mend.amounts, mend.swap),
            ("x", "pair", ("a", "b"), (("c",), ("d",)), ((1,), (2,)), 3))

    def test_equal_texts_tell_the_same(self):
        one, other = Store(WHOLE), Store(WHOLE)
        for name in ("text", "file", "nodes", "rooms", "readers"):
            self.assertEqual(getattr(one, name), getattr(other, name))

    def test_a_last_line_feed_may_be_left_out(self):
        store = Store(WHOLE[:-1])
        self.assertEqual(store.text, WHOLE[:-1])
        self.assertEqual(written(store), WHOLE)

    def test_the_least_and_the_greatest_numbers(self):
        for number in ("1", "01", "0001", "40", "040", "0040"):
            self.assertEqual(Store(f"file {number}\nnode a 0\nreader a").file, int(number))
        for number in ("0", "0000", "40", "0040", "007"):
            self.assertEqual(Store(f"file 1\nnode a {number}\nreader a").rooms, (int(number),))
            self.assertEqual(Store(f"file 1\nnode a 0\nreader a:{number}").readers, ((("a", int(number)),),))
            text = "file 1\nnode a 0\nnode b 0\nnode c 0\n{}\nreader a"
            pair = Store(text.format(f"pair p a b swap {number} from c:1 and c:0040"))
            self.assertEqual((pair.mends[0].swap, pair.mends[0].amounts), (int(number), ((1,), (40,))))

    def test_one_node_and_seven(self):
        names = ["a", "b2", "z9z9z9z9z9z9", "and", "from", "swap", "node"]
        lines = ["file 1"] + [f"{'node' if k == 6 else 'new'} {name} {k}" for k, name in enumerate(names)]
        store = Store("\n".join(lines + ["reader node"]))
        self.assertEqual(store.nodes, tuple(names))
        self.assertEqual([store.is_new(name) for name in names], [True] * 6 + [False])
        self.assertEqual(Store(SMALL).nodes, ("a",))

    def test_words_of_the_text_may_be_names(self):
        text = (
            "file 2\nnode and 1\nnode from 1\nnode swap 1\nnode file 1\n"
            "pair and and from swap 1 from swap:1 file:2 and file:3\nmend from file from and:1 swap:2\nreader and file:1\n")
        store = Store(text)
        self.assertEqual(store.mends[0].nodes, ("and", "from"))
        self.assertEqual(store.mends[0].helpers, (("swap", "file"), ("file",)))
        self.assertEqual(store.mends[1].helpers, ("and", "swap"))
        self.assertEqual(written(store), text)

    def test_up_to_forty_lines(self):
        lines = ["file 1", "node a 1", "node b 1"]
        lines += [f"mend m{k} a from b:1" for k in range(36)] + ["reader b"]
        self.assertEqual(len(Store("\n".join(lines)).mends), 36)
        lines = ["file 1", "node a 1"] + ["reader a"] * 38
        self.assertEqual(Store("\n".join(lines)).readers, ((("a", None),),) * 38)


class WrittenTest(Case):
    def test_lines_keep_their_order(self):
        self.assertEqual(written(Store(WHOLE)), WHOLE)

    def test_zeros_ahead_are_gone(self):
        text = (
            "file 0004\nnode a 02\nnew b 0000\nnode c 0040\nmend m a from b:01 c:0010\n"
            "pair p a b swap 000 from c:0002 and c:03\nreader a b:000 c:09")
        self.assertEqual(written(Store(text)), (
            "file 4\nnode a 2\nnew b 0\nnode c 40\nmend m a from b:1 c:10\n"
            "pair p a b swap 0 from c:2 and c:3\nreader a b:0 c:9\n"))

    def test_written_texts_are_written_as_they_are(self):
        chance = random.Random(6)
        for _ in range(200):
            text = plain.random_text(chance, chance.randint(2, 7), chance.randint(0, 6), chance.randint(1, 3), 40, 40)
            self.assertEqual(written(Store(text)), text)
            self.assertEqual(written(Store(text[:-1])), text)

    def test_the_store_stays_as_it_is(self):
        store = Store(WHOLE)
        before = copy.copy(vars(store))
        written(store)
        self.assertEqual(vars(store), before)


class WrongTextTest(Case):
    def test_no_strings(self):
        for value in NO_STRINGS:
            self.refused(value, 0, 0)

    def test_texts_that_end_too_early(self):
        self.refused("", 1, 1)
        for many in range(1, 9):
            for end in ("", "\n"):
                self.refused("\n".join(LINES[:many]) + end, many + 1, 1)
        self.assertEqual(len(Store("\n".join(LINES[:9])).readers), 1)

    def test_empty_lines_and_empty_words(self):
        self.refused("\n", 1, 1)
        self.refused("\n\n", 1, 1)
        self.refused("\n" + SMALL, 1, 1)
        self.refused(SMALL + "\n", 4, 1)
        self.refused(WHOLE + "\n\n", 11, 1)
        self.refused("file 3\n\nnode a 2\nreader a", 2, 1)
        self.refused(" file 3\nnode a 2\nreader a", 1, 1)
        self.refused("file  3\nnode a 2\nreader a", 1, 2)
        self.refused("file 3 \nnode a 2\nreader a", 1, 3)
        self.refused("file \nnode a 2\nreader a", 1, 2)
        self.refused("file 3\nnode  2\nreader a", 2, 2)
        self.refused("file 3\nnode a  2\nreader a", 2, 3)
        self.refused("file 3\nnode a 2 \nreader a", 2, 4)
        self.refused("file 3\nnode a 2\nreader ", 3, 2)
        self.refused("file 3\nnode a 2\nreader a ", 3, 3)
        self.refused("file 3\nnode a 2\nreader  a", 3, 2)
        self.refused("file 3\nnode a 2\n reader a", 3, 1)
        self.refused("file 3\nnode a 2\nreader a\n ", 4, 1)

    def test_other_blanks_and_line_ends_are_parts_of_words(self):
        self.refused("file\t3\nnode a 2\nreader a", 1, 1)
        self.refused("file 3\r\nnode a 2\nreader a", 1, 2)
        self.refused("file 3\nnode a 2\nreader a\r\n", 3, 2)
        self.refused("file 3\nnode a\u00a02\nreader a", 2, 2)
        self.refused("file 3\x0bnode a 2\nreader a", 1, 2)

    def test_the_line_of_the_file(self):
        for line, column in (
                ("node a 2", 1), ("File 3", 1), ("", 1), ("reader a", 1), ("mend x a from b:1", 1), ("files 3", 1),
                ("file", 2), ("file 0", 2), ("file 41", 2), ("file 00003", 2), ("file 00040", 2), ("file x", 2),
                ("file -1", 2), ("file +1", 2), ("file 1.0", 2), ("file 1_0", 2), ("file \u0663", 2),
                ("file \u00b2", 2), ("file 9999", 2), ("file 12345", 2),
                ("file 3 4", 3), ("file 3 x y", 3), ("file 0 x", 2)):
            self.refused(changed(1, line), 1, column)
        self.refused("file 3\nfile 3\nnode a 2\nreader a", 2, 1)
        self.refused("file 3\nnode a 2\nfile 3\nreader a", 3, 1)

    def test_lines_of_nodes(self):
        for word in ("node", "new"):
            for rest, column in (
                    ("", 2), (" ", 2), (" A 2", 2), (" 2a 2", 2), (" a_b 2", 2), (" abcdefghijklm 2", 2), (" a 2", 2),
                    (" b: 2", 2), (" \u00e9 2", 2), (" -b 2", 2), (" a x", 2), (" a 2 3", 2), (" c", 3),
                    (" c x", 3), (" c 41", 3), (" c -1", 3), (" c 00000", 3), (" c 1:1", 3), (" c \u0661", 3),
                    (" c 2 3", 4), (" c 2 3 4", 4), (" c 41 3", 3)):
                self.refused(changed(3, word + rest), 3, column)
        self.refused("file 3\nnodes a 2\nreader a", 2, 1)

    def test_names_of_all_lengths(self):
        for name in ("a", "z", "a0", "abcdefghijkl", "a23456789012"):
            self.assertEqual(Store(f"file 1\nnode {name} 1\nreader {name}").nodes, (name,))
        for name in ("abcdefghijklm", "0a", "aB", "", "a-b", "a.", "\u00e4", "a\u0663"):
            self.refused(f"file 1\nnode {name} 1\nreader {name}", 2, 2)

    def test_an_eighth_node(self):
        lines = ["file 1"] + [f"node a{k} 1" for k in range(8)] + ["reader a1"]
        self.refused("\n".join(lines), 9, 1)
        self.refused("\n".join(lines[:8] + ["new a7 1", "reader a1"]), 9, 1)
        self.refused("\n".join(lines[:8] + ["node"]), 9, 1)
        self.assertEqual(len(Store("\n".join(lines[:8] + ["reader a1"])).nodes), 7)

    def test_new_nodes_alone(self):
        for many in range(8):
            lines = ["file 1"] + [f"new a{k} 1" for k in range(many)]
            for line in ("reader a0", "mend m a0 from a1:1", "pair p a0 a1 swap 0 from a2:1 and a2:1", "reader"):
                self.refused("\n".join(lines + [line]), many + 2, 1)
            self.refused("\n".join(lines), many + 2, 1)
        lines = ["file 1"] + [f"new a{k} 1" for k in range(7)]
        self.refused("\n".join(lines + ["node a 1", "reader a"]), 9, 1)
        self.assertEqual(len(Store("\n".join(lines[:7] + ["node a 1", "reader a0"])).nodes), 7)

    def test_lines_out_of_order(self):
        self.refused(changed(7, "node e 1"), 7, 1)
        self.refused(changed(7, "new e 1"), 7, 1)
        self.refused(changed(7, "file 1"), 7, 1)
        for line in ("node e 1", "new e 1", "mend x a from b:1", "pair x a b swap 1 from c:1 and c:1", "file 1", "x"):
            self.refused(changed(10, line), 10, 1)
            self.refused(WHOLE + line, 11, 1)

    def test_lines_of_a_mend(self):
        for line, column in (
                ("mend", 2), ("mend ", 2), ("mend X a from b:1", 2), ("mend one a from b:1", 2),
                ("mend a", 3), ("mend x", 3), ("mend x e from b:1", 3), ("mend x a:1 from b:1", 3),
                ("mend x  from b:1", 3), ("mend x one from b:1", 3), ("mend x one x", 3),
                ("mend x a", 4), ("mend x a b:1", 4), ("mend x a From b:1", 4), ("mend x a b from c:1", 4),
                ("mend x a from", 5), ("mend x a from ", 5), ("mend x a from b", 5), ("mend x a from b:", 5),
                ("mend x a from b:0", 5), ("mend x a from b:41", 5), ("mend x a from b:00001", 5),
                ("mend x a from :1", 5), ("mend x a from e:1", 5), ("mend x a from a:1", 5),
                ("mend x a from b:1:1", 5), ("mend x a from b::1", 5), ("mend x a from B:1", 5),
                ("mend x a from and", 5), ("mend x a from b:x", 5), ("mend x a from b:-1", 5),
                ("mend x a from b:\u0661", 5), ("mend x a from b :1", 5), ("mend x a from b:1, c:1", 5),
                ("mend x a from b:1 b:2", 6), ("mend x a from b:1 a:2", 6), ("mend x a from b:1 ", 6),
                ("mend x a from b:1  c:1", 6), ("mend x a from b:1 and c:1", 6), ("mend x a from b:1 c", 6),
                ("mend x a from b:1 c:1 b:1", 7), ("mend x a from b:1 c:1 d:1 x", 8), ("mend x e", 3),
                ("mend one e", 2), ("mend x e x y", 3)):
            self.refused(changed(8, line), 8, column)

    def test_lines_of_a_pair(self):
        for line, column in (
                ("pair", 2), ("pair one a b swap 1 from c:1 and d:1", 2), ("pair 1 a b swap 1 from c:1 and d:1", 2),
                ("pair x", 3), ("pair x e b swap 1 from c:1 and d:1", 3), ("pair x a", 4),
                ("pair x a a swap 1 from c:1 and d:1", 4), ("pair x a e swap 1 from c:1 and d:1", 4),
                ("pair x a swap 1 from c:1 and d:1", 4), ("pair x a b", 5), ("pair x a b from c:1 and d:1", 5),
                ("pair x a b Swap 1 from c:1 and d:1", 5), ("pair x a b swap", 6), ("pair x a b swap x", 6),
                ("pair x a b swap 41 from c:1 and d:1", 6), ("pair x a b swap -1 from c:1 and d:1", 6),
                ("pair x a b swap 00001 from c:1 and d:1", 6), ("pair x a b swap from c:1 and d:1", 6),
                ("pair x a b swap 1", 7), ("pair x a b swap 1 c:1 and d:1", 7), ("pair x a b swap 1 2 from c:1", 7),
                ("pair x a b swap 1 from", 8), ("pair x a b swap 1 from and d:1", 8),
                ("pair x a b swap 1 from a:1 and d:1", 8), ("pair x a b swap 1 from b:1 and d:1", 8),
                ("pair x a b swap 1 from c:0 and d:1", 8), ("pair x a b swap 1 from c and d:1", 8),
                ("pair x a b swap 1 from e:1 and d:1", 8), ("pair x a b swap 1 from  and d:1", 8),
                ("pair x a b swap 1 from c:1", 9), ("pair x a b swap 1 from c:1 ", 9),
                ("pair x a b swap 1 from c:1 c:1 and d:1", 9), ("pair x a b swap 1 from c:1 with d:1", 9),
                ("pair x a b swap 1 from c:1 And d:1", 9), ("pair x a b swap 1 from c:1 a:1 and d:1", 9),
                ("pair x a b swap 1 from c:1 and", 10), ("pair x a b swap 1 from c:1 and ", 10),
                ("pair x a b swap 1 from c:1 d:1", 10), ("pair x a b swap 1 from c:1 and and d:1", 10),
                ("pair x a b swap 1 from c:1 and a:1", 10), ("pair x a b swap 1 from c:1 and b:1", 10),
                ("pair x a b swap 1 from c:1 and d:41", 10), ("pair x a b swap 1 from c:1 and d", 10),
                ("pair x a b swap 1 from c:1 and d:1 d:1", 11), ("pair x a b swap 1 from c:1 and d:1 and", 11),
                ("pair x a b swap 1 from c:1 and d:1 and c:1", 11), ("pair x a b swap 1 from c:1 and d:1 ", 11),
                ("pair x a b swap 1 from c:1 d:1 and d:1 c:1 x", 13), ("pair x a b swap 41 to", 6)):
            self.refused(changed(7, line), 7, column)

    def test_in_a_pair_and_is_a_helper_only_with_an_amount(self):
        text = "file 1\nnode a 1\nnode b 1\nnode and 1\n{}\nreader a"
        store = Store(text.format("pair x a b swap 1 from and:1 and and:2"))
        self.assertEqual(store.mends[0].amounts, ((1,), (2,)))
        self.refused(text.format("pair x a b swap 1 from and:1 and:2 and and:2"), 5, 9)
        self.refused(text.format("pair x a b swap 1 from and:1 and and"), 5, 10)
        self.refused(text.format("pair x a b swap 1 from and and:1"), 5, 8)

    def test_one_label_of_two_lines(self):
        self.refused(changed(8, "pair two a b swap 1 from c:1 and d:1"), 8, 2)
        self.refused(changed(8, "mend two a from b:1"), 8, 2)
        self.refused(changed(7, "pair one a b swap 1 from c:1 and d:1"), 7, 2)

    def test_lines_of_readers(self):
        for line, column in (
                ("reader", 2), ("reader ", 2), ("reader e", 2), ("reader A", 2), ("reader a:", 2), ("reader a:41", 2),
                ("reader a:00001", 2), ("reader a:x", 2), ("reader :1", 2), ("reader a:1:1", 2), ("reader a:-1", 2),
                ("reader one", 2), ("reader a a", 3), ("reader a a:1", 3), ("reader a:1 a", 3), ("reader a:1 b e", 4),
                ("reader a ", 3), ("reader a  b", 3), ("reader a b c d e", 6), ("reader a b c d a", 6),
                ("readers a", 1), ("Reader a", 1)):
            self.refused(changed(10, line), 10, column)

    def test_the_first_wrong_line_counts(self):
        self.refused("file 0\nnode A 1\nreader", 1, 2)
        self.refused("file 1\nnode A 1\nreader", 2, 2)
        self.refused("file 1\nnode a 1\nreader\nx", 3, 2)
        self.refused("file 1\nnode a 1\nx\nreader", 3, 1)
        self.refused("file 1\nnode a 99 x\n", 2, 3)


class ManyWrongTextsTest(Case):
    """Texts with chance changes, held against the patterns of wrong_at."""

    WORDS = (
        "", "a", "b", "e", "file", "node", "new", "mend", "pair", "reader", "swap", "from", "and", "0", "1", "40", "41",
        "00001", "m0", "m9", "a:1", "b:1", "a:0", "c:40", "c:41", "d:", ":1", "a:1:1", "A", "abcdefghijklm", "and:1")

    def check(self, text):
        wrong = wrong_at(text)
        if wrong is None:
            self.assertEqual(Store(text).text, text)
        else:
            self.refused(text, *wrong)
        return wrong is None

    def test_changed_words(self):
        chance = random.Random(8)
        right = 0
        for _ in range(6000):
            text = plain.random_text(chance, chance.randint(2, 5), chance.randint(0, 4), chance.randint(1, 2), 40)
            words = [line.split(" ") for line in text.split("\n")]
            for _ in range(chance.randint(0, 2)):
                line = chance.choice(words)
                at = chance.randint(0, len(line))
                line[at:at + chance.randint(0, 1)] = chance.choices(self.WORDS, k=chance.randint(0, 1))
            right += self.check("\n".join(" ".join(line) for line in words))
        self.assertGreater(right, 600)
        self.assertLess(right, 5400)

    def test_changed_lines(self):
        chance = random.Random(9)
        for _ in range(2000):
            text = plain.random_text(chance, chance.randint(2, 7), chance.randint(0, 3), chance.randint(1, 2))
            lines = text.split("\n")
            for _ in range(chance.randint(1, 3)):
                at = chance.randrange(len(lines))
                lines[at:at + chance.randint(0, 1)] = chance.choices(lines, k=chance.randint(0, 1))
            self.check("\n".join(lines))

    def test_beginnings(self):
        for many in range(len(WHOLE) + 1):
            self.check(WHOLE[:many])


if __name__ == "__main__":
    unittest.main()
