"""Points 56 to 60: missing nodes and liars."""

import copy
import random
import unittest
from itertools import combinations, product

import plain
from anymend.demands import Bar, bar
from anymend.errors import BadNumber
from anymend.liars import Found, Fooled, Unclear, found_among, stands
from anymend.menders import after, first_state
from anymend.states import State
from anymend.stores import Store
from cases import LARGEST, NO_NUMBERS, Case

FOUR = """file {}
node a 2
node b 2
node c 2
node d 2
mend ma a from b:1 c:1 d:1
mend mb b from a:1 c:1 d:1
mend mc c from a:1 b:1 d:1
mend md d from a:1 b:1 c:1
reader a b c d
reader d b:1 c:0
reader a
"""

THREE = """file 2
node a 1
node b 2
new c 2
node d 1
reader a b c d
reader c d:0 b:1
reader c
"""

BAD_NUMBERS = NO_NUMBERS + [None, -1, -10 ** 30]


def with_reader(store, rest):
    """The text of a store with the rest of a reader as its only reader."""
    lines = [line for line in store.text.split("\n") if line and not line.startswith("reader")]
    words = [name if limit is None else f"{name}:{limit}" for name, limit in rest]
    return Store("\n".join(lines + ["reader " + " ".join(words)]))


class StandsTest(Case):
    def first_short(self, store, rest, mends):
        """The least number of mends, up to some, behind which the rest of a reader has a cut below the file."""
        if not rest:
            return 0
        left = with_reader(store, rest)
        enough = plain.enough(left) if mends is None else min(mends, plain.enough(left))
        for many, table in enumerate(plain.ways_by_mends(left, 0, enough)):
            totals = [plain.start(left, lot) + total for lot, total in table.items() if total is not None]
            if min(totals) < store.file:
                return many
        return None

    def check(self, store, reader, missing, liars, mends):
        row = store.readers[reader]
        short = {}
        for away in combinations([name for name in store.nodes if name in dict(row)], min(missing + 2 * liars, len(row))):
            many = self.first_short(store, [pair for pair in row if pair[0] not in away], mends)
            if many is not None:
                short[away] = many
        found = stands(store, reader, missing, liars, mends)
        if not short:
            self.assertIsNone(found)
            return None
        self.assertIsInstance(found, Fooled)
        self.assertIn(found.away, short)
        told = found.bar
        self.assertIsInstance(told, Bar)
        self.assertEqual((len(told.history), len(told.taken), told.reader), (short[found.away], short[found.away], 0))
        lot, cost = told.lot, plain.start(store, told.lot)
        for label, taken in zip(told.history, told.taken):
            ((_, _, lot, more),) = [step for step in plain.steps(store, lot) if step[:2] == (label, taken)]
            cost += more
        rest = [(name, limit) for name, limit in row if name not in found.away]
        outside = [limit for name, limit in rest if name not in lot]
        self.assertNotIn(None, outside)
        self.assertEqual(told.total, cost + sum(outside))
        self.assertLess(told.total, store.file)
        if not rest:
            self.assertEqual((told.lot, told.total), ((), 0))
        return found

    def test_small(self):
        # Three nodes hold two of the third's letters and two of the second's, or all of their rooms.
        for file, greatest in ((1, 3), (2, 3), (3, 2), (4, 2), (5, 1), (6, 0)):
            store = Store(FOUR.format(file))
            for missing in range(6):
                for liars in range(3):
                    found = self.check(store, 0, missing, liars, 0)
                    self.assertEqual(found is None, 2 * (4 - min(4, missing + 2 * liars)) >= file)
                    self.check(store, 0, missing, liars, None)
        self.assertIsNone(stands(Store(FOUR.format(3)), 0, 2, 0))
        self.assertIsNone(stands(Store(FOUR.format(3)), 0, 0, 1))
        self.assertIsNotNone(stands(Store(FOUR.format(3)), 0, 1, 1))

    def test_more_than_the_reader_has(self):
        store = Store(FOUR.format(1))
        for reader, away in ((0, ("a", "b", "c", "d")), (1, ("b", "c", "d")), (2, ("a",))):
            for missing, liars in ((4, 0), (0, 2), (10 ** 12, 10 ** 12), (1, 3)):
                for mends in (0, 5, None, 10 ** 12):
                    found = stands(store, reader, missing, liars, mends)
                    self.assertEqual(found.away, away)
                    self.assertEqual(
                        vars(found.bar), {"history": (), "reader": 0, "lot": (), "taken": (), "total": 0})

    def test_all_rests_tried(self):
        chance = random.Random(56)
        kinds = {True: 0, False: 0}
        for k in range(80):
            nodes, mends, file = chance.randint(2, 4 + k % 5 // 4), chance.randint(0, 4), chance.randint(1, 3)
            text = plain.random_text(chance, nodes, mends, 2, 4, file)
            if k % 2:
                text = plain.strong_text(chance, nodes, mends, 2, 4, file, 0.3)
            store = Store(text)
            for reader in (0, 1):
                for missing, liars in ((0, 0), (1, 0), (2, 0), (0, 1), (1, 1)):
                    for many in (0, 1, None):
                        kinds[self.check(store, reader, missing, liars, many) is None] += 1
        self.assertGreater(min(kinds.values()), 100)

    def test_without_liars_and_missing_nodes(self):
        chance = random.Random(57)
        for _ in range(60):
            store = Store(plain.random_text(chance, chance.randint(2, 4), chance.randint(0, 4), 1, 4, chance.randint(1, 4)))
            for mends in (0, 2, None):
                one, other = bar(store, mends), stands(store, 0, 0, 0, mends)
                self.assertEqual(one is None, other is None)
                if one is not None:
                    self.assertEqual((other.away, len(other.bar.history)), ((), len(one.history)))

    def test_at_the_limits(self):
        chance = random.Random(58)
        for _ in range(2):
            store = Store(plain.strong_text(chance, 5, 12, 8, 40, 20, 0.2))
            for reader in range(8):
                self.check(store, reader, 1, 0, None)
                self.check(store, reader, 0, 1, 3)

    def test_classes(self):
        told = Bar((), 0, (), (), 0)
        self.assertEqual(vars(Fooled(("a",), told)), {"away": ("a",), "bar": told})

    def test_errors(self):
        store = Store(FOUR.format(2))
        for reader in BAD_NUMBERS + [3, 10 ** 30]:
            self.refused(BadNumber, ("reader", reader), stands, store, reader, -1, -1, -1)
        for value in BAD_NUMBERS:
            self.refused(BadNumber, ("missing", value), stands, store, 2, value, -1, -1)
            self.refused(BadNumber, ("liars", value), stands, store, 0, 9, value, -1)
            if value is not None:
                self.refused(BadNumber, ("mends", value), stands, store, 0, 0, 0, value)


class FoundTest(Case):
    def told_of(self, state, reader, file):
        """What the nodes of a reader tell of a file if none lies."""
        rows = dict(zip(state.store.nodes, state.rows))
        return [
            tuple(sum(a * b for a, b in zip(row, file)) % state.prime for row in rows[name])
            for name, _ in state.store.readers[reader]]

    def agreeing(self, state, reader, told, liars):
        """All files with which all but so many nodes agree, by trying all; and who does not."""
        found = {}
        names = [name for name, _ in state.store.readers[reader]]
        for file in product(range(state.prime), repeat=state.store.file):
            right = self.told_of(state, reader, file)
            wrong = tuple(name for name, one, other in zip(names, told, right) if one is not None and one != other)
            if len(wrong) <= liars:
                found[file] = wrong
        return found

    def check(self, state, reader, told, liars):
        expected = self.agreeing(state, reader, told, liars)
        found = found_among(state, reader, told, liars)
        if not expected:
            self.assertIsNone(found)
        elif len(expected) == 1:
            self.assertIsInstance(found, Found)
            self.assertEqual({found.file: found.liars}, expected)
        else:
            self.assertIsInstance(found, Unclear)
            self.assertIn(found.one, expected)
            self.assertIn(found.other, expected)
            self.assertNotEqual(found.one, found.other)
        return type(found)

    def test_small(self):
        state = State(Store(THREE), 7, [[[1, 0]], [[0, 1], [1, 1]], [], [[1, 2]]])
        # The file (3, 4).
        found = found_among(state, 0, [(3,), (4, 0), (), (4,)], 0)
        self.assertEqual(vars(found), {"file": (3, 4), "liars": ()})
        found = found_among(state, 0, ((3,), (4, 1), (), (4,)), 1)
        self.assertEqual(vars(found), {"file": (3, 4), "liars": ("b",)})
        self.assertIsNone(found_among(state, 0, [(3,), (4, 1), (), (4,)], 0))
        found = found_among(state, 0, [None, (4, 0), None, None], 0)
        self.assertEqual(vars(found), {"file": (3, 4), "liars": ()})
        found = found_among(state, 0, [(3,), None, None, None], 0)
        self.assertIsInstance(found, Unclear)
        self.assertEqual({found.one[0], found.other[0]}, {3})
        # Limits do not count.
        found = found_among(state, 1, [(), (4,), (4, 0)], 0)
        self.assertEqual(vars(found), {"file": (3, 4), "liars": ()})

    def test_the_order_of_the_reader(self):
        store = Store("file 1\nnode a 1\nnode b 1\nnode c 1\nnode d 1\nnode e 1\nreader e d c b a")
        state = State(store, 5, [[[1]]] * 5)
        found = found_among(state, 0, [(1,), (4,), (4,), (2,), (4,)], 2)
        self.assertEqual(vars(found), {"file": (4,), "liars": ("e", "b")})

    def test_nothing_is_told(self):
        state = State(Store(THREE), 2, [[[1, 0]], [], [], []])
        for told in ([None, None, None, None], [None, (), (), None]):
            for liars in (0, 1, 3):
                self.assertEqual(self.check(state, 0, told, liars), Unclear)
        self.assertEqual(self.check(state, 2, [()], 0), Unclear)
        self.assertEqual(self.check(state, 2, [None], 3), Unclear)
        # As many liars as nodes, and more.
        self.assertEqual(self.check(state, 0, [(1,), None, None, None], 1), Unclear)
        self.assertEqual(self.check(state, 0, [(1,), (), (), ()], 3), Unclear)

    def test_all_files_tried(self):
        chance = random.Random(59)
        kinds = {}
        for k in range(500):
            file = chance.randint(1, 3)
            store = Store(plain.random_text(chance, chance.randint(2, 5), 0, 1, 3, file))
            if k % 2:
                names = store.nodes
                store = Store("\n".join([line for line in store.text.split("\n") if "reader" not in line and line] + [
                    "reader " + " ".join(names)]))
            prime = chance.choice((2, 2, 3, 5))
            state = plain.random_state(chance, store, prime, 0.8)
            told = self.told_of(state, 0, [chance.randrange(prime) for _ in range(file)])
            for at in chance.sample(range(len(told)), min(len(told), chance.randint(0, 2))):
                told[at] = None if chance.random() < 0.3 else tuple(chance.randrange(prime) for _ in told[at])
            kind = self.check(state, 0, told, chance.randint(0, 3))
            kinds[kind] = kinds.get(kind, 0) + 1
        self.assertEqual(len(kinds), 3)
        self.assertGreater(min(kinds.values()), 20)

    def test_rows_of_zeros(self):
        state = State(Store("file 1\nnode a 2\nnode b 1\nreader a b"), 3, [[[0], [1]], [[1]]])
        for told in product(product(range(3), range(3)), product(range(3))):
            for liars in (0, 1, 2):
                self.check(state, 0, list(told), liars)

    def test_what_stands_is_found(self):
        chance = random.Random(60)
        for missing, liars in ((0, 0), (1, 0), (2, 0), (0, 1), (1, 1)):
            store = Store("file 2\n" + "".join(f"node {name} 2\n" for name in "abcde") + "".join(
                f"mend m{name} {name} from " + " ".join(f"{other}:1" for other in "abcde" if other != name) + "\n"
                for name in "abcde") + "reader e a b c d\nreader " + " ".join("abcde"[:5 - missing - 2 * liars]))
            # The second reader is one of the rests; all of them are alike.
            self.assertIsNone(stands(store, 0, missing, liars))
            for prime in (17, LARGEST):
                state = after(first_state(store, prime), [chance.choice(store.mends).label for _ in range(5)])
                for _ in range(10):
                    file = tuple(chance.randrange(prime) for _ in range(2))
                    told = self.told_of(state, 0, file)
                    picked = chance.sample(range(5), missing + liars)
                    for at in picked[:missing]:
                        told[at] = None
                    wrong = []
                    for at in picked[missing:]:
                        lie = tuple(chance.randrange(prime) for _ in told[at])
                        wrong += [at] if lie != told[at] else []
                        told[at] = lie
                    found = found_among(state, 0, told, liars)
                    self.assertIsInstance(found, Found)
                    self.assertEqual(found.file, file)
                    self.assertEqual(found.liars, tuple("eabcd"[at] for at in sorted(wrong)))

    def test_at_the_limits(self):
        chance = random.Random(61)
        store = Store("file 40\n" + "".join(f"node {name} 40\n" for name in "abcdefg") + "reader a b c d e f g")
        state = first_state(store, LARGEST)
        file = tuple(chance.randrange(LARGEST) for _ in range(40))
        told = self.told_of(state, 0, file)
        for at in (1, 3, 6):
            told[at] = tuple((number + 1) % LARGEST for number in told[at])
        found = found_among(state, 0, told, 3)
        self.assertEqual((found.file, found.liars), (file, ("b", "d", "g")))

    def test_classes(self):
        self.assertEqual(vars(Found((1,), ("a",))), {"file": (1,), "liars": ("a",)})
        self.assertEqual(vars(Unclear((1,), (2,))), {"one": (1,), "other": (2,)})

    def test_errors(self):
        state = State(Store(THREE), 7, [[[1, 0]], [[0, 1], [1, 1]], [], [[1, 2]]])
        right = [(3,), (4, 0), (), (4,)]
        for reader in BAD_NUMBERS + [3]:
            self.refused(BadNumber, ("reader", reader), found_among, state, reader, None, -1)
        for told in (
                None, True, 0, "", "abcd", {}, object(), [], right[:3], right + [None], iter(right), set(),
                [3, (4, 0), (), (4,)], [[3], (4, 0), (), (4,)], [(3,), (4,), (), (4,)], [(3,), (4, 0, 0), (), (4,)],
                [(3,), (4, 0), (0,), (4,)], [(7,), None, None, None], [(-1,), None, None, None], [(True,), None, None, None],
                [("3",), None, None, None], [(3.0,), None, None, None], [(None,), None, None, None], [None, (4, 7), None, None],
                [(), None, None, None], ["3", None, None, None], [None, None, [], None], [None, None, {}, None],
                [None, None, "", None], [None, None, False, None], [((3,),), None, None, None]):
            self.refused(BadNumber, ("told", told), found_among, state, 0, told, -1)
        for value in BAD_NUMBERS:
            self.refused(BadNumber, ("liars", value), found_among, state, 0, right, value)


class SameTest(Case):
    def test_equal_calls_and_unchanged_arguments(self):
        store = Store(FOUR.format(3))
        state = first_state(store, 101)
        told = [state.rows[k] and (5, 6) for k in range(4)]
        before = copy.copy(vars(store)), copy.copy(vars(state)), list(told)
        one, other = stands(store, 0, 1, 1), stands(store, 0, 1, 1)
        self.assertEqual((one.away, vars(one.bar)), (other.away, vars(other.bar)))
        for liars in range(4):
            one, other = found_among(state, 0, told, liars), found_among(state, 0, told, liars)
            self.assertEqual(one and vars(one), other and vars(other))
        self.assertEqual((vars(store), vars(state), told), before)


if __name__ == "__main__":
    unittest.main()
