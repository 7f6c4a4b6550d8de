"""Points 27 to 30: states, ranks of lots, readers that get the file, standings."""

import copy
import random
import unittest
from fractions import Fraction

import plain
from anymend.demands import demand, lasts
from anymend.errors import BadLot, BadNumber
from anymend.states import Standing, State, gets, ranks, standing
from anymend.stores import Store

LARGEST = 10 ** 9 + 7

SMALL = """file 3
node a 2
new b 1
node c 3
mend m b from a:1 c:1
reader a c:1
reader b c
reader a:1 b:1 c:1
reader a:2 c:1
"""

ROWS = [[[1, 0, 0], [0, 1, 0]], [], [[0, 0, 1], [1, 1, 0]]]

AGAIN = """file 1
node a 1
node b 2
node c 3
new d 2
pair m0 d a swap 0 from c:2 and b:2
pair m1 c b swap 0 from a:1 and d:3 a:1
mend m2 b from d:3
mend m3 b from d:3 c:2 a:3
reader d:1 b c:0 a
"""

NO_PRIMES = [None, True, False, 0, 1, -7, 4, 9, 91, "7", 7.0, (7,), [7], {}, Fraction(7), 10 ** 9 + 9, object()]


def span(rows, prime, many):
    """All sums of multiples of some rows."""
    found = {(0,) * many}
    for row in rows:
        found = {
            tuple((a + times * b) % prime for a, b in zip(one, row)) for one in found for times in range(prime)}
    return found


def rank(rows, prime, many):
    """The rank of some rows, by the size of their span."""
    size, found = len(span(rows, prime, many)), 0
    while prime ** found < size:
        found += 1
    return found


class Case(unittest.TestCase):
    def refused(self, error, fields, function, *arguments):
        with self.assertRaises(error) as caught:
            function(*arguments)
        found = tuple(vars(caught.exception).values())
        self.assertEqual(len(found), len(fields))
        for one, other in zip(found, fields):
            self.assertIs(one, other)

    def refused_node(self, store, number, rows):
        with self.assertRaises(BadNumber) as caught:
            State(store, 7, rows)
        self.assertEqual((caught.exception.what, caught.exception.number), ("node", number), rows)


class StateTest(Case):
    def test_attributes(self):
        store = Store(SMALL)
        state = State(store, 7, ROWS)
        self.assertIs(state.store, store)
        self.assertEqual(state.prime, 7)
        self.assertEqual(state.rows, (((1, 0, 0), (0, 1, 0)), (), ((0, 0, 1), (1, 1, 0))))

    def test_rows_stay_as_they_were_given(self):
        # Also rows of zeros, and rows that depend on each other.
        state = State(Store(SMALL), 5, ([(0, 0, 0), (5, 10, -5)], (), [[1, 2, 3], [2, 4, 6], (-1, 7, 5 ** 30 + 3)]))
        self.assertEqual(state.rows, (((0, 0, 0), (0, 0, 0)), (), ((1, 2, 3), (2, 4, 1), (4, 2, 3))))
        self.assertEqual(state.rank_of(("c",)), 2)

    def test_the_lists_are_copied(self):
        rows = copy.deepcopy(ROWS)
        state = State(Store(SMALL), 7, rows)
        self.assertEqual(rows, ROWS)
        rows[0][0][0] = 5
        rows[1].append([1, 1, 1])
        rows[2] = []
        self.assertEqual(state.rows, State(Store(SMALL), 7, ROWS).rows)

    def test_no_rows_at_all(self):
        state = State(Store(SMALL), 2, [[], (), []])
        self.assertEqual(state.rows, ((), (), ()))
        self.assertEqual({found for _, found in ranks(state)}, {0})

    def test_least_and_greatest_primes(self):
        for prime in (2, 3, 999999937, LARGEST):
            state = State(Store(SMALL), prime, [[[prime + 1, -1, prime]], [], []])
            self.assertEqual(state.rows, (((1, prime - 1, 0),), (), ()))

    def test_wrong_primes(self):
        store = Store(SMALL)
        for prime in NO_PRIMES:
            self.refused(BadNumber, ("prime", prime), State, store, prime, ROWS)
            self.refused(BadNumber, ("prime", prime), State, store, prime, None)

    def test_wrong_rows(self):
        store = Store(SMALL)
        for rows in (
                None, True, 0, "", "abc", b"abc", {}, {0: [], 1: [], 2: []}, object(), [], [[]], [[], []], ((), (), (), ()),
                [[], [], None], [[], [], 5], [[], "", []], [{}, [], []], [[], [], {1}], ["a", "b", "c"], [0, 0, 0],
                # A node that is wrong as well goes behind.
                [[[1]], [], None], [[[1, 2, 3]] * 3, [], [], []], iter([[], [], []])):
            self.refused(BadNumber, ("rows", rows), State, store, 7, rows)

    def test_wrong_nodes(self):
        store = Store(SMALL)
        right = [1, 2, 3]
        for row in (None, 0, "123", [], [1, 2], [1, 2, 3, 4], [1, 2, True], [1, 2, None], [1, 2, "3"], [1, 2, 3.0],
                    [1, 2, [3]], {1: 1, 2: 2, 3: 3}, (1, 2), ((1, 2, 3),), [Fraction(1), 2, 3], b"abc"):
            self.refused_node(store, 0, [[row], [], []])
            self.refused_node(store, 0, [[right, row], [], []])
            self.refused_node(store, 1, [[right], (row,), [row]])
            self.refused_node(store, 2, [[], [], [right, right, row]])
        # Longer than its room.
        self.refused_node(store, 0, [[right] * 3, [], []])
        self.refused_node(store, 1, [[right] * 2, [right] * 2, [right] * 4])
        self.refused_node(store, 2, [[right] * 2, [right], [right] * 4])
        self.refused_node(store, 2, [[], [], [[0, 0, 0]] * 4])
        self.refused_node(store, 0, [[right] * 3, [[1]], [None]])
        self.refused_node(Store("file 1\nnode a 0\nreader a"), 0, [[[1]]])
        self.assertEqual(State(store, 7, [[right] * 2, [right], [right] * 3]).rank_of(("a", "b", "c")), 1)


class RankTest(Case):
    def test_small(self):
        state = State(Store(SMALL), 7, ROWS)
        self.assertEqual(ranks(state), (
            ((), 0), (("a",), 2), (("b",), 0), (("a", "b"), 2),
            (("c",), 2), (("a", "c"), 3), (("b", "c"), 2), (("a", "b", "c"), 3)))

    def test_ranks_hang_on_the_prime(self):
        store = Store("file 2\nnode a 1\nnode b 1\nreader a")
        self.assertEqual(State(store, 3, [[[1, 1]], [[1, 4]]]).rank_of(("a", "b")), 1)
        self.assertEqual(State(store, 5, [[[1, 1]], [[1, 4]]]).rank_of(("a", "b")), 2)

    def test_sizes_of_spans(self):
        chance = random.Random(28)
        for _ in range(150):
            text = plain.random_text(chance, chance.randint(2, 4), 1, 1, 3, chance.randint(1, 4))
            store, prime = Store(text), chance.choice((2, 2, 3, 5))
            state = plain.random_state(chance, store, prime)
            found = ranks(state)
            self.assertEqual([lot for lot, _ in found], plain.lots(store))
            for lot, number in found:
                self.assertEqual(number, rank(plain.of_lot(state, lot), prime, store.file))
                self.assertEqual(state.rank_of(lot), number)

    def test_many_rows(self):
        chance = random.Random(29)
        names = "abcdefg"
        store = Store("file 40\n" + "".join(f"node {name} 40\n" for name in names) + "reader a b:3 c d e f g")
        for prime in (2, LARGEST):
            # All rows lie in a space of 39 dimensions.
            basis = [[chance.randrange(prime) for _ in range(40)] for _ in range(39)]
            rows = []
            for many in (40, 3, 0, 40, 17, 40, 30):
                picked = chance.sample(basis, min(many, chance.choice((5, 20, 39))))
                rows.append([chance.choice(picked) if picked else None for _ in range(many)])
            state = State(store, prime, rows)
            found = dict(ranks(state))
            for lot in chance.sample(plain.lots(store), 12) + [tuple(names)]:
                self.assertEqual(found[lot], plain.rank(plain.of_lot(state, lot), prime))
                self.assertEqual(found[lot], state.rank_of(lot))

    def test_errors(self):
        state = State(Store(SMALL), 7, ROWS)
        for lot in (None, True, 0, "", "a", [], ["a"], {"a"}, ("b", "a"), ("a", "a"), ("d",), (None,), (["a"],), object()):
            self.refused(BadLot, (lot,), state.rank_of, lot)


class GetsTest(Case):
    def test_small(self):
        state = State(Store(SMALL), 7, ROWS)
        self.assertEqual([gets(state, reader) for reader in range(4)], [True, False, False, True])
        state = State(Store(SMALL), 7, [[[1, 0, 0], [0, 1, 0]], [], [[1, 1, 0]]])
        self.assertEqual([gets(state, reader) for reader in range(4)], [False, False, False, False])
        # All three hold enough, but a and b hold the same.
        state = State(Store(SMALL), 7, [[[1, 0, 0]], [[1, 0, 0]], [[0, 1, 0], [0, 0, 1]]])
        self.assertEqual([gets(state, reader) for reader in range(4)], [False, True, False, False])
        state = State(Store(SMALL), 7, [[[1, 0, 0]], [[0, 1, 0]], [[0, 0, 1], [0, 0, 0]]])
        self.assertEqual([gets(state, reader) for reader in range(4)], [False, False, True, False])

    def test_limits_of_0_and_of_more_than_is_held(self):
        store = Store("file 1\nnode a 1\nreader a:0\nreader a:40\nreader a")
        state = State(store, 2, [[[1]]])
        self.assertEqual([gets(state, reader) for reader in range(3)], [False, True, True])
        state = State(store, 2, [[]])
        self.assertEqual([gets(state, reader) for reader in range(3)], [False, False, False])

    def test_all_lots_of_the_reader(self):
        chance = random.Random(30)
        counts = {True: 0, False: 0}
        for _ in range(400):
            store = Store(plain.random_text(chance, chance.randint(2, 4), 1, 2, 3, chance.randint(1, 3)))
            prime = chance.choice((2, 3, 7))
            state = plain.random_state(chance, store, prime, 0.9)
            for reader in (0, 1):
                names = [name for name, _ in store.readers[reader]]
                enough = all(
                    rank(plain.of_lot(state, lot), prime, store.file) + plain.limits(store, reader, lot) >= store.file
                    for lot in plain.lots(store)
                    if set(lot) <= set(names) and plain.limits(store, reader, lot) is not None)
                self.assertIs(gets(state, reader), enough, store.text)
                counts[enough] += 1
        self.assertGreater(min(counts.values()), 100)

    def test_errors(self):
        state = State(Store(SMALL), 7, ROWS)
        for reader in (None, True, False, "0", 1.0, [], (0,), object(), -1, 4, 10 ** 30):
            self.refused(BadNumber, ("reader", reader), gets, state, reader)


class StandingTest(Case):
    def check(self, state):
        """The standing is that of the demands of all lots."""
        store, found = state.store, standing(state)
        self.assertIsInstance(found, Standing)
        enough = plain.enough(store)
        tables = [plain.ways_by_mends(store, reader, enough) for reader in range(len(store.readers))]
        held = {lot: plain.rank(plain.of_lot(state, lot), state.prime) for lot in plain.lots(store)}
        below = []
        for mends in range(enough + 1):
            needed = {
                lot: max([0] + [store.file - ways[mends][lot] for ways in tables if ways[mends][lot] is not None])
                for lot in held}
            if any(held[lot] < needed[lot] for lot in held):
                below.append((mends, needed))
        if not below:
            self.assertEqual((found.mends, found.lot, found.rank, found.demand), (None, None, None, None))
            return None
        mends, needed = below[0]
        self.assertEqual(found.mends, mends - 1)
        self.assertIn(found.lot, held)
        self.assertEqual((found.rank, found.demand), (held[found.lot], needed[found.lot]))
        self.assertLess(found.rank, found.demand)
        self.assertEqual(demand(store, found.lot, mends), found.demand)
        return mends - 1

    def test_small(self):
        store = Store("file 2\nnode a 1\nnode b 1\nnode c 2\nmend m c from a:1 b:1\nmend n a from c:1\nreader a b\nreader c")
        self.assertIsNone(lasts(Store(store.text.replace("file 2", "file 1"))))
        # a and b differ, and c holds both letters; n can put into a what b holds.
        state = State(store, 5, [[[1, 0]], [[0, 1]], [[1, 0], [0, 1]]])
        self.assertIsNone(self.check(state))
        state = State(store, 5, [[[1, 0]], [[0, 1]], [[1, 0]]])
        self.assertEqual(self.check(state), -1)
        self.assertEqual((standing(state).lot, standing(state).rank, standing(state).demand), (("c",), 1, 2))
        # b holds nothing, which is enough for neither reader.
        state = State(store, 5, [[[1, 0]], [], [[1, 0], [0, 1]]])
        self.assertEqual(self.check(state), -1)

    def test_a_state_that_lasts_a_while(self):
        # Within one mend a is needed by c alone, which nobody reads before.
        store = Store(
            "file 1\nnode a 1\nnode b 1\nnode c 1\nmend m b from a:1\nmend n c from b:1\nreader c")
        self.assertIsNone(self.check(State(store, 2, [[[1]], [[1]], [[1]]])))
        self.assertEqual(self.check(State(store, 2, [[[0]], [[1]], [[1]]])), 1)
        self.assertEqual(self.check(State(store, 2, [[[0]], [[0]], [[1]]])), 0)
        self.assertEqual(self.check(State(store, 2, [[[0]], [[0]], [[0]]])), -1)
        found = standing(State(store, 2, [[[0]], [[1]], [[1]]]))
        self.assertEqual((found.mends, found.lot, found.rank, found.demand), (1, ("a",), 0, 1))

    def test_more_mends_than_nodes(self):
        # d holds nothing yet; only within six mends something of it is needed.
        store = Store(AGAIN)
        self.assertEqual(self.check(State(store, 2, [[[1]], [[1]], [[1]], []])), 5)
        self.assertIsNone(self.check(State(store, 2, [[[1]], [[1]], [[1]], [[1]]])))

    def test_by_all_demands(self):
        chance = random.Random(31)
        kinds = {}
        for _ in range(500):
            text = plain.random_text(
                chance, chance.randint(2, 4), chance.randint(0, 4), chance.randint(1, 2), 3, chance.randint(1, 3))
            found = self.check(plain.random_state(chance, Store(text), chance.choice((2, 7, 101)), 0.95))
            kinds[found] = kinds.get(found, 0) + 1
        self.assertTrue({None, -1, 0, 1} <= set(kinds), kinds)

    def test_no_mend_at_all(self):
        store = Store("file 1\nnode a 1\nreader a\nreader a:1")
        self.assertIsNone(self.check(State(store, 2, [[[1]]])))
        self.assertEqual(self.check(State(store, 2, [[[2]]])), -1)
        store = Store("file 1\nnode a 1\nreader a:0")
        found = standing(State(store, 2, [[[1]]]))
        self.assertEqual((found.mends, found.lot, found.rank, found.demand), (-1, (), 0, 1))

    def test_a_store_at_the_limits(self):
        chance = random.Random(32)
        store = Store(plain.greatest_text(chance, 8, 40, 40, 9))
        for prime in (2, LARGEST):
            self.check(plain.random_state(chance, store, prime, 1))

    def test_classes(self):
        self.assertEqual(
            vars(Standing(2, ("a",), 1, 3)), {"mends": 2, "lot": ("a",), "rank": 1, "demand": 3})


class SameTest(Case):
    def test_equal_calls_and_unchanged_arguments(self):
        chance = random.Random(33)
        for _ in range(40):
            store = Store(plain.random_text(chance, 4, 3, 2))
            state = plain.random_state(chance, store, 3)
            before = copy.copy(vars(state)), copy.copy(vars(store))
            self.assertEqual(vars(standing(state)), vars(standing(state)))
            self.assertEqual(ranks(state), ranks(state))
            gets(state, 0)
            self.assertEqual((vars(state), vars(store)), before)


if __name__ == "__main__":
    unittest.main()
