"""Points 13 to 19: steps and ways, demands, what a store lasts, bars."""

import copy
import random
import unittest
from fractions import Fraction

import plain
from anymend.demands import Bar, Way, bar, demand, demands, greatest_file, lasts, way
from anymend.errors import BadLot, BadNumber
from anymend.stores import Store

# Pairs whose nodes fall out of the lot and are brought in again: the least
# cuts within 0, 1, 2 .. mends are 3, 1, 1, 1, 1, 1, 0.
AGAIN = """file {}
node a 1
node b 2
node c 3
new d 2
pair m0 d a swap 0 from c:2 and b:2
pair m1 c b swap 0 from a:1 and d:3 a:1
mend m2 b from d:3
mend m3 b from d:3 c:2 a:3
reader d:1 b c:0 a
"""

CHAIN = """file 2
node a 2
node b 2
node c 2
mend ab b from a:1
mend bc c from b:2
reader c
reader a:1 b:1
"""

NO_LOTS = [
    None, True, 0, "", "a", [], ["a"], {"a"}, {"a": 1}, ("b", "a"), ("a", "a"), ("a", "a", "b"), ("d",), ("",),
    ("a", "d"), ("A",), (None,), (0,), (True,), (("a",),), (["a"],), ("a", ["b"]), (b"a",), ("a", "b", "c", "c"),
    ("c", "b", "a"), ("ab",), ({},), ("a", None), object()]

NO_NUMBERS = [True, False, "", "0", "1", 1.0, 0.0, Fraction(1), [], [0], (), (0,), {}, set(), object(), int, b"0"]


def equal_nodes(nodes, room, amount, read, file=1):
    """A store in which all other nodes mend each one, and some of them are read."""
    names = "abcdefg"[:nodes]
    lines = [f"file {file}"] + [f"node {name} {room}" for name in names]
    for name in names:
        lines.append(f"mend {name} {name} from " + " ".join(f"{other}:{amount}" for other in names if other != name))
    return Store("\n".join(lines + ["reader " + " ".join(names[:read])]))


class Case(unittest.TestCase):
    def refused(self, error, fields, function, *arguments):
        with self.assertRaises(error) as caught:
            function(*arguments)
        found = tuple(vars(caught.exception).values())
        self.assertEqual(len(found), len(fields))
        for one, other in zip(found, fields):
            self.assertIs(one, other)

    def check_way(self, store, lot, reader, mends, total):
        """A Way of this total, whose steps add up to it."""
        found = way(store, lot, reader, mends)
        self.assertIsInstance(found, Way)
        self.assertEqual(found.total, total, (store.text, lot, reader, mends))
        self.assertIsInstance(found.steps, tuple)
        if total is None:
            self.assertEqual(found.steps, ())
            return
        if mends is not None:
            self.assertLessEqual(len(found.steps), mends)
        end, cost = lot, 0
        for label, taken in found.steps:
            ways = [step for step in plain.steps(store, end) if step[:2] == (label, taken)]
            self.assertEqual(len(ways), 1, (store.text, found.steps))
            _, _, end, more = ways[0]
            cost += more
        self.assertIsNotNone(plain.limits(store, reader, end))
        self.assertEqual(cost + plain.limits(store, reader, end), total)

    def check_bar(self, store, mends, many):
        """A Bar with a history of so many mends, whose cut adds up to its total."""
        found = bar(store, mends)
        if many is None or (mends is not None and mends < many):
            self.assertIsNone(found, store.text)
            return
        self.assertIsInstance(found, Bar)
        self.assertIsInstance(found.history, tuple)
        self.assertIsInstance(found.taken, tuple)
        self.assertEqual((len(found.history), len(found.taken)), (many, many), store.text)
        self.assertIn(found.lot, plain.lots(store))
        lot, cost = found.lot, plain.start(store, found.lot)
        for label, taken in zip(found.history, found.taken):
            ((_, _, lot, more),) = [step for step in plain.steps(store, lot) if step[:2] == (label, taken)]
            cost += more
        self.assertIn(found.reader, range(len(store.readers)))
        self.assertNotIsInstance(found.reader, bool)
        self.assertEqual(found.total, cost + plain.limits(store, found.reader, lot))
        self.assertLess(found.total, store.file)


class StepsTest(Case):
    """The prices of steps, where a way is one step."""

    def test_a_mend_of_one_node(self):
        store = Store("file 9\nnode a 5\nnode b 9\nnode c 9\nmend m a from b:2 c:4\nreader a\nreader b:0 c:1 a:3")
        # The lesser of the room and the amounts of those helpers that are outside.
        for lot, total in (((), 5), (("b",), 4), (("c",), 2), (("b", "c"), 0), (("a",), 0)):
            self.check_way(store, lot, 0, 1, total)
        self.assertEqual(way(store, ("b",), 0, 1).steps, (("m", ("a",)),))
        self.assertEqual(way(store, ("a",), 0, 1).steps, ())
        for lot, total in (((), 4), (("a",), 1), (("c",), 2), (("b", "c"), 0)):
            self.check_way(store, lot, 1, 1, total)

    def test_a_pair(self):
        text = (
            "file 9\nnode a {}\nnode b {}\nnode c 9\nnode d 9\n"
            "pair m a b swap {} from c:2 and c:3 d:4\nreader a\nreader b\nreader a b")
        for rooms, swap, lot, totals in (
                # All by rooms: none is collected.
                ((1, 1), 9, (), (1, 1, 2)),
                # Each one by its own links and the swap, or by both rows of links.
                ((40, 40), 1, (), (3, 8, 9)),
                ((40, 40), 0, (), (2, 7, 9)),
                ((40, 40), 9, (), (9, 9, 9)),
                ((40, 40), 9, ("c",), (4, 4, 4)),
                ((40, 40), 1, ("c",), (1, 4, 4)),
                ((40, 40), 1, ("d",), (3, 4, 5)),
                ((40, 40), 9, ("c", "d"), (0, 0, 0)),
                # The first one by its links and the swap, the second one by its room.
                ((40, 3), 1, (), (3, 3, 6)),
                ((2, 40), 9, (), (2, 9, 9)),
                # The room is less than the swap.
                ((1, 40), 3, ("c",), (1, 4, 4)),
                ((0, 40), 3, (), (0, 9, 9))):
            store = Store(text.format(*rooms, swap))
            for reader, total in enumerate(totals):
                self.check_way(store, lot, reader, 1, total)
                self.assertEqual(plain.way(store, lot, reader, 1), total)

    def test_helpers_hold_what_they_held_ahead_of_a_pair(self):
        store = Store("file 9\nnode a 9\nnode b 9\nnode c 9\nnode d 9\npair m a b swap 1 from c:1 and d:1\nreader a b")
        # Whether the lot has the mended nodes makes no difference.
        for lot in ((), ("c",), ("d",), ("c", "d")):
            full = plain.in_order(store, lot + ("a",))
            dropped = Store(store.text.replace("reader a b", "reader b c:0 d:0"))
            self.assertEqual(way(dropped, lot, 0, 1).total, way(dropped, full, 0, 1).total)


class WayTest(Case):
    def test_a_chain(self):
        store = Store(CHAIN)
        self.check_way(store, (), 0, 0, None)
        self.check_way(store, (), 0, 1, 2)
        self.check_way(store, (), 0, 2, 1)
        self.check_way(store, (), 0, None, 1)
        self.assertEqual(way(store, (), 0).steps, (("ab", ("b",)), ("bc", ("c",))))
        self.assertEqual(vars(way(store, (), 0, 0)), {"total": None, "steps": ()})
        self.check_way(store, ("b",), 0, 1, 0)
        self.check_way(store, (), 1, 0, 2)
        self.check_way(store, ("a",), 1, None, 0)
        self.check_way(store, ("a",), 1, 0, 1)

    def test_all_rows_tried(self):
        chance = random.Random(13)
        for _ in range(120):
            store = Store(plain.random_text(chance, chance.randint(2, 3), chance.randint(0, 3), 2))
            for lot in plain.lots(store):
                for reader in (0, 1):
                    for mends in (0, 1, 2, 3):
                        self.check_way(store, lot, reader, mends, plain.way(store, lot, reader, mends))

    def test_any_number_of_mends(self):
        chance = random.Random(14)
        for _ in range(80):
            store = Store(plain.random_text(chance, chance.randint(2, 4), chance.randint(0, 5), 1))
            ways = plain.ways(store, 0, plain.enough(store))
            for lot in plain.lots(store):
                for mends in (None, plain.enough(store), 1000, 10 ** 30):
                    self.check_way(store, lot, 0, mends, ways[lot])

    def test_longer_rows_step_by_step(self):
        store = Store(AGAIN.format(1))
        for mends in range(12):
            ways = plain.ways(store, 0, mends)
            for lot in plain.lots(store):
                self.check_way(store, lot, 0, mends, ways[lot])

    def test_a_node_falls_out_and_comes_back(self):
        store = Store(AGAIN.format(1))
        ways = [plain.ways(store, 0, mends) for mends in range(17)]
        self.assertNotEqual(ways[5], ways[6])
        self.assertEqual(ways[6], ways[16])
        found = bar(store)
        names = [name for taken in found.taken for name in taken]
        self.assertGreater(len(names), len(set(names)))

    def test_one_node(self):
        store = Store("file 3\nnode a 2\nreader a\nreader a:1")
        for mends in (0, 1, None):
            self.check_way(store, (), 0, mends, None)
            self.check_way(store, ("a",), 0, mends, 0)
            self.check_way(store, (), 1, mends, 1)
            self.check_way(store, ("a",), 1, mends, 0)

    def test_errors(self):
        store = Store(CHAIN)
        for lot in NO_LOTS:
            self.refused(BadLot, (lot,), way, store, lot, 0)
            self.refused(BadLot, (lot,), way, store, lot, 9, -1)
        for reader in NO_NUMBERS + [None, -1, 2, 10 ** 30]:
            self.refused(BadNumber, ("reader", reader), way, store, (), reader)
            self.refused(BadNumber, ("reader", reader), way, store, (), reader, "x")
        for mends in NO_NUMBERS + [-1, -10 ** 30]:
            self.refused(BadNumber, ("mends", mends), way, store, ("a", "c"), 1, mends)

    def test_mends_by_name(self):
        store = Store(CHAIN)
        self.assertEqual(way(store, (), 0, mends=1).total, 2)
        self.assertEqual(demand(store, (), mends=2), 1)
        self.assertEqual(demands(store, mends=0)[0], ((), 0))
        self.assertEqual(greatest_file(store, mends=0), 2)
        self.assertIsNone(bar(store, mends=0))

    def test_classes(self):
        steps = (("m", ("a",)),)
        self.assertEqual(vars(Way(3, steps)), {"total": 3, "steps": steps})
        self.assertEqual(
            vars(Bar(("m",), 0, ("a",), (("b",),), 4)),
            {"history": ("m",), "reader": 0, "lot": ("a",), "taken": (("b",),), "total": 4})


class DemandTest(Case):
    def test_a_chain(self):
        store = Store(CHAIN)
        self.assertEqual(demand(store, (), 0), 0)
        self.assertEqual(demand(store, ("a",), 0), 1)
        self.assertEqual(demand(store, ("c",), 0), 2)
        self.assertEqual(demand(store, (), 1), 0)
        self.assertEqual(demand(store, ()), 1)
        self.assertEqual(demands(store, 0), (
            ((), 0), (("a",), 1), (("b",), 1), (("a", "b"), 2),
            (("c",), 2), (("a", "c"), 2), (("b", "c"), 2), (("a", "b", "c"), 2)))

    def test_a_reader_without_a_way_counts_0(self):
        store = Store("file 5\nnode a 1\nnode b 1\nreader a")
        self.assertEqual(demands(store), (((), 0), (("a",), 5), (("b",), 0), (("a", "b"), 5)))

    def test_demands_are_0_at_least(self):
        store = Store("file 5\nnode a 1\nreader a:40")
        self.assertEqual(demands(store), (((), 0), (("a",), 5)))

    def test_all_lots(self):
        chance = random.Random(15)
        for _ in range(60):
            store = Store(plain.random_text(chance, chance.randint(2, 4), chance.randint(0, 4), chance.randint(1, 3)))
            for mends in (0, 1, 2, 5, None, 99):
                needed = plain.demands(store, plain.enough(store) if mends is None else min(mends, plain.enough(store)))
                found = demands(store, mends)
                self.assertEqual(found, tuple(needed.items()), (store.text, mends))
                self.assertEqual(tuple(lot for lot, _ in found), tuple(plain.lots(store)))
                for lot in needed:
                    self.assertEqual(demand(store, lot, mends), needed[lot])

    def test_demands_never_fall(self):
        chance = random.Random(16)
        for k in range(60):
            store = Store(plain.random_text(chance, chance.randint(2, 5), chance.randint(0, 6), 2, pairs=k % 2 == 0))
            tables = [dict(demands(store, mends)) for mends in (0, 1, 2, 3, 4, 5, 6, 16, 32)]
            for less, more in zip(tables, tables[1:]):
                self.assertTrue(all(less[lot] <= more[lot] for lot in less))
            self.assertEqual(tables[-1], dict(demands(store)))
            for lot in tables[-1]:
                for name in set(store.nodes) - set(lot):
                    greater = plain.in_order(store, lot + (name,))
                    self.assertTrue(all(table[lot] <= table[greater] for table in tables))
            if k % 2 == 1:
                self.assertEqual(dict(demands(store, len(store.nodes))), tables[-1])

    def test_errors(self):
        store = Store(CHAIN)
        for lot in NO_LOTS:
            self.refused(BadLot, (lot,), demand, store, lot)
            self.refused(BadLot, (lot,), demand, store, lot, -1)
        for mends in NO_NUMBERS + [-1]:
            self.refused(BadNumber, ("mends", mends), demand, store, (), mends)
            self.refused(BadNumber, ("mends", mends), demands, store, mends)


class LastsTest(Case):
    def test_equal_nodes(self):
        # Each one of the read nodes by its room or by the links of those that are not yet in the lot.
        for nodes, room, amount, read in (
                (2, 1, 1, 1), (3, 2, 1, 2), (4, 3, 1, 2), (4, 2, 1, 3), (5, 4, 2, 3), (5, 40, 10, 4), (6, 7, 2, 4),
                (7, 6, 1, 6), (7, 40, 40, 7), (7, 4, 1, 5), (7, 0, 40, 3), (7, 20, 7, 4)):
            store = equal_nodes(nodes, room, amount, read)
            for mends in [*range(read + 2), None]:
                started = 0 if mends is None else max(0, read - mends)
                total = started * room + sum(min(room, (nodes - 1 - k) * amount) for k in range(started, read))
                self.assertEqual(greatest_file(store, mends), total, (store.text, mends))

    def test_all_histories_tried(self):
        chance = random.Random(17)
        for _ in range(60):
            store = Store(plain.random_text(chance, chance.randint(2, 3), chance.randint(0, 3), chance.randint(1, 2)))
            for mends in (0, 1, 2, 3):
                self.assertEqual(greatest_file(store, mends), plain.greatest_file(store, mends), store.text)

    def test_numbers_of_mends(self):
        chance = random.Random(18)
        kinds = {}
        for k in range(150):
            text = plain.random_text(chance, chance.randint(2, 4), chance.randint(0, 5), chance.randint(1, 2), news=k % 2)
            store = Store(text)
            tables = [
                plain.ways_by_mends(store, reader, plain.enough(store)) for reader in range(len(store.readers))]
            files = [min(
                plain.start(store, lot) + total
                for ways in tables for lot, total in ways[mends].items() if total is not None)
                for mends in range(plain.enough(store) + 1)]
            for mends, file in enumerate(files):
                self.assertEqual(greatest_file(store, mends), file)
            for mends in (None, len(files), 10 ** 30):
                self.assertEqual(greatest_file(store, mends), files[-1])
            below = [mends for mends, file in enumerate(files) if file < store.file]
            found = lasts(store)
            self.assertEqual(found, below[0] - 1 if below else None, text)
            kinds[found] = kinds.get(found, 0) + 1
            for mends in [0, 1, 2, 3, plain.enough(store), 10 ** 30, None]:
                self.check_bar(store, mends, below[0] if below else None)
        self.assertTrue({None, -1, 0, 1} <= set(kinds))

    def test_files_at_and_above_what_lasts(self):
        chance = random.Random(19)
        for _ in range(60):
            text = plain.random_text(chance, chance.randint(2, 5), chance.randint(0, 6), 2, 5, news=0)
            many = greatest_file(Store(text))
            if not 1 <= many < 40:
                continue
            rest = text[text.index("\n"):]
            store = Store(f"file {many}{rest}")
            self.assertIsNone(lasts(store))
            self.assertIsNone(bar(store))
            store = Store(f"file {many + 1}{rest}")
            least = lasts(store) + 1
            self.assertEqual(greatest_file(store, least), many)
            self.check_bar(store, None, least)
            self.check_bar(store, least, least)
            if least > 0:
                self.assertGreater(greatest_file(store, least - 1), many)
                self.assertIsNone(bar(store, least - 1))

    def test_the_greatest_file_does_not_hang_on_the_file(self):
        for file in (1, 3, 40):
            self.assertEqual(
                [greatest_file(Store(AGAIN.format(file)), mends) for mends in range(9)], [3, 1, 1, 1, 1, 1, 0, 0, 0])

    def test_more_mends_than_nodes_are_lasted(self):
        store = Store(AGAIN.format(1))
        self.assertEqual(lasts(store), 5)
        self.assertIsNone(bar(store, 5))
        for mends in (6, 7, 16, 10 ** 9, None):
            self.check_bar(store, mends, 6)
        self.assertEqual(lasts(Store(AGAIN.format(2))), 0)
        self.check_bar(Store(AGAIN.format(2)), None, 1)
        self.assertEqual(lasts(Store(AGAIN.format(4))), -1)
        self.check_bar(Store(AGAIN.format(4)), None, 0)
        self.check_bar(Store(AGAIN.format(4)), 0, 0)

    def test_no_mend_at_all(self):
        text = "file {}\nnode a 2\nnode b 1\nreader a b\nreader a b:3"
        for file, last in ((1, None), (3, None), (4, -1), (40, -1)):
            store = Store(text.format(file))
            self.assertEqual(lasts(store), last)
            for mends in (0, 1, None):
                self.assertEqual(greatest_file(store, mends), 3)
                self.check_bar(store, mends, None if last is None else 0)

    def test_files_above_40_and_none(self):
        store = Store("file 40\nnode a 40\nnode b 40\nnode c 40\nreader a b c")
        self.assertEqual(greatest_file(store), 120)
        self.assertIsNone(lasts(store))
        store = Store("file 1\nnode a 40\nreader a:0")
        self.assertEqual(greatest_file(store), 0)
        self.assertEqual(vars(bar(store)), {"history": (), "reader": 0, "lot": (), "taken": (), "total": 0})
        store = Store("file 1\nnode a 0\nreader a")
        self.assertEqual((greatest_file(store), lasts(store)), (0, -1))

    def test_new_nodes_hold_nothing(self):
        text = "file 2\nnode a 2\nnew b 2\nmend m b from a:2\nreader {}"
        store = Store(text.format("b"))
        self.assertEqual((greatest_file(store, 0), greatest_file(store), lasts(store)), (0, 0, -1))
        self.assertEqual(vars(bar(store)), {"history": (), "reader": 0, "lot": ("b",), "taken": (), "total": 0})
        store = Store(text.format("a b:1"))
        self.assertEqual((greatest_file(store, 0), lasts(store)), (2, None))
        # A helper that holds nothing sends nothing.
        store = Store("file 2\nnode a 2\nnew b 2\nmend m a from b:2\nreader a")
        self.assertEqual([greatest_file(store, mends) for mends in (0, 1, 2)], [2, 0, 0])
        self.check_bar(store, None, 1)

    def test_swaps(self):
        text = (
            "file {}\nnode a 4\nnode b 4\nnode c 4\nnode d 4\n"
            "pair p a b swap {} from c:1 d:1 and c:1 d:1\nreader a c:1\nreader b d")
        for swap, many in ((0, 3), (1, 4), (2, 5), (40, 5)):
            store = Store(text.format(1, swap))
            self.assertEqual((greatest_file(store), greatest_file(store, 2)), (many, many))
            self.assertEqual(plain.greatest_file(store, 2), many)

    def test_errors(self):
        store = Store(CHAIN)
        for mends in NO_NUMBERS + [-1, -10 ** 30]:
            self.refused(BadNumber, ("mends", mends), greatest_file, store, mends)
            self.refused(BadNumber, ("mends", mends), bar, store, mends)


class LimitsTest(Case):
    def test_stores_at_the_limits(self):
        chance = random.Random(20)
        for _ in range(4):
            store = Store(plain.greatest_text(chance, 8, 40, chance.choice((5, 40)), chance.choice((3, 40))))
            least = plain.demands(store, 7)
            self.assertEqual(dict(demands(store, 7)), least)
            found = lasts(store)
            self.check_bar(store, None, None if found is None else found + 1)
            for reader in range(8):
                ways = plain.ways(store, reader, 3)
                for lot in [plain.lots(store)[k] for k in (0, 1, 64, 100, 127)]:
                    self.check_way(store, lot, reader, 3, ways[lot])

    def test_seven_equal_nodes(self):
        # The last one of seven is mended out of the six that are read, too.
        self.assertIsNone(lasts(equal_nodes(7, 1, 40, 7, 6)))
        self.assertEqual(lasts(equal_nodes(7, 1, 40, 7, 7)), 0)
        self.assertEqual(lasts(equal_nodes(7, 1, 40, 7, 8)), -1)


class SameTest(Case):
    def test_equal_calls_and_unchanged_arguments(self):
        chance = random.Random(21)
        for _ in range(20):
            store = Store(plain.random_text(chance, 4, 4, 2))
            before = copy.copy(vars(store))
            for mends in (0, 2, None):
                for lot in plain.lots(store):
                    self.assertEqual(vars(way(store, lot, 1, mends)), vars(way(store, lot, 1, mends)))
                one, other = bar(store, mends), bar(store, mends)
                self.assertEqual(one and vars(one), other and vars(other))
                self.assertEqual(demands(store, mends), demands(store, mends))
            self.assertEqual(vars(store), before)


if __name__ == "__main__":
    unittest.main()
