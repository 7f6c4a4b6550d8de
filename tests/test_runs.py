"""Points 61 to 63: houses."""

import copy
import random
import unittest

import plain
from anymend.errors import BadName, BadNumber, NoName, TooSmall
from anymend.runs import House, again
from anymend.states import State, gets
from anymend.stores import Store
from cases import LARGEST, NO_NUMBERS, NO_PRIMES, NO_STRINGS, Case

NODES = """file 3
node a 2
node b 2
node c 2
new d 3
mend a a from b:1 c:1
mend d d from a:1 b:2 c:40
mend x a from d:2
reader a b
reader a:1 b:1 c:1
reader d
reader a
"""

PAIR = """file 4
node a 2
node b 2
node c 3
node d 3
pair p a b swap 1 from c:1 d:1 and d:2
pair q d a swap 0 from b:1 c:1 and c:2
mend b b from a:1 c:1 d:1
reader a b
reader c:2 d:2
"""


class HouseCase(Case):
    def check(self, house, file):
        """All values are those of the rows, and all readers read the file or nothing."""
        state = house.present()
        self.assertIsInstance(state, State)
        self.assertIs(state.store, house.store)
        self.assertEqual(state.prime, house.prime)
        for name, rows in zip(state.store.nodes, state.rows):
            values = tuple(sum(a * b for a, b in zip(row, file)) % house.prime for row in rows)
            self.assertEqual(house.shown(name), values)
            self.assertIsInstance(house.shown(name), tuple)
        for reader in range(len(state.store.readers)):
            expected = tuple(number % house.prime for number in file) if gets(state, reader) else None
            self.assertEqual(house.read(reader), expected, (state.store.text, state.rows, reader))

    def check_mend(self, house, label):
        """After a mend all lots have their best ranks, and all other nodes their rows."""
        store, ahead = house.store, house.present()
        found = plain.ranks(ahead)
        self.assertIsNone(house.mend(label))
        behind = house.present()
        for lot, rank in plain.ranks(behind).items():
            self.assertEqual(rank, plain.best_rank(store, found, label, lot))
        for name, one, other in zip(store.nodes, ahead.rows, behind.rows):
            if name not in plain.mend_of(store, label).nodes:
                self.assertEqual(one, other)


class HouseTest(HouseCase):
    def test_it_begins_with_a_first_state(self):
        for text, prime in ((NODES, 17), (PAIR, 389), (NODES, LARGEST)):
            store = Store(text)
            file = [5, 7, 11, 13][:store.file]
            house = House(store, prime, file)
            self.assertIs(house.store, store)
            self.assertEqual(house.prime, prime)
            self.check(house, file)
            for lot, rank in plain.ranks(house.present()).items():
                self.assertEqual(rank, min(store.file, plain.start(store, lot)))
            self.assertEqual(house.past(), ())

    def test_numbers_of_any_size_and_sign(self):
        for file in ([0, 0, 0], [-1, 17, 34], (10 ** 50, -10 ** 50, 16)):
            house = House(Store(NODES), 17, file)
            self.check(house, file)
            self.assertEqual(house.read(0), tuple(number % 17 for number in file))

    def test_the_file_is_copied(self):
        file = [1, 2, 3]
        house = House(Store(NODES), 17, file)
        house.change(0, 9)
        self.assertEqual(file, [1, 2, 3])
        file[1] = 8
        self.assertEqual(house.read(0), (9, 2, 3))

    def test_deeds(self):
        chance = random.Random(62)
        for _ in range(60):
            store = Store(plain.random_text(
                chance, chance.randint(2, 4), chance.randint(1, 4), 2, chance.choice((2, 4)), chance.randint(1, 5)))
            prime = plain.prime_above(plain.bound(store))
            file = [chance.randrange(-prime, 2 * prime) for _ in range(store.file)]
            house, deeds = House(store, prime, file), []
            for _ in range(8):
                if chance.random() < 0.4:
                    place, number = chance.randrange(store.file), chance.choice((file[0], chance.randrange(-prime, 2 * prime)))
                    self.assertIsNone(house.change(place, number))
                    file[place] = number
                    deeds.append(("change", place, number % prime))
                else:
                    label = chance.choice(store.mends).label
                    self.check_mend(house, label)
                    deeds.append(("mend", label))
                self.check(house, file)
                self.assertEqual(house.past(), tuple(deeds))

    def test_pairs(self):
        file = [5, 7, 11, 13]
        house = House(Store(PAIR), 389, file)
        for label in ("p", "q", "b", "p", "p", "q", "q", "b"):
            self.check_mend(house, label)
            self.check(house, file)

    def test_nodes_without_rows(self):
        house = House(Store(NODES), 17, [1, 2, 3])
        self.assertEqual(house.shown("d"), ())
        self.assertIsNone(house.read(2))
        house.mend("x")
        self.assertEqual(house.shown("a"), ())
        self.assertIsNone(house.read(0))
        house.change(1, 5)
        self.assertEqual(house.shown("a"), ())
        house.mend("d")
        self.assertIsNone(house.read(3))
        self.check(house, [1, 5, 3])

    def test_limits_of_readers(self):
        store = Store("file 3\nnode a 3\nnode b 3\nnode c 3\nreader a:1 b:1 c:1\nreader a:2 b:0 c\nreader a:1 b:1\nreader a:40")
        house = House(store, 11, [4, 5, 6])
        self.assertEqual([house.read(reader) for reader in range(4)], [(4, 5, 6), (4, 5, 6), None, (4, 5, 6)])

    def test_rows_stay_when_the_file_changes(self):
        house = House(Store(NODES), 17, [1, 2, 3])
        house.mend("d")
        rows = house.present().rows
        house.change(2, 3)
        self.assertEqual(house.past(), (("mend", "d"), ("change", 2, 3)))
        house.change(2, -10 ** 30)
        self.assertEqual(house.present().rows, rows)
        self.check(house, [1, 2, -10 ** 30])

    def test_one_letter(self):
        store = Store("file 1\nnode a 1\nnode b 1\nmend b b from a:1\nreader b")
        house = House(store, 2, [3])
        house.mend("b")
        self.assertEqual((house.read(0), house.shown("b")), ((1,), (1,)))
        house.change(0, 4)
        self.assertEqual((house.read(0), house.shown("a")), ((0,), (0,)))

    def test_what_lasts_is_read_for_ever(self):
        store = Store(NODES.replace("mend x a from d:2\n", "").replace("reader d\nreader a\n", ""))
        house = House(store, LARGEST, [1, 2, 3])
        chance = random.Random(63)
        for _ in range(60):
            house.mend(chance.choice(("a", "d")))
            self.assertEqual(house.read(0), (1, 2, 3))

    def test_at_the_limits(self):
        chance = random.Random(64)
        store = Store(plain.greatest_text(chance, 2, 40, 40, 40))
        prime = plain.prime_above(plain.bound(store))
        file = [chance.randrange(prime) for _ in range(40)]
        house = House(store, prime, file)
        for mend in store.mends[:3]:
            house.mend(mend.label)
            self.check(house, file)


class ErrorsTest(HouseCase):
    def test_errors_at_the_beginning(self):
        store = Store(NODES)
        for prime in NO_PRIMES:
            self.refused(BadNumber, ("prime", prime), House, store, prime, None)
            self.refused(BadNumber, ("prime", prime), again, store, prime, None, None)
        for prime in (2, 13):
            self.refused(TooSmall, (prime, 16), House, store, prime, None)
            self.refused(TooSmall, (prime, 16), again, store, prime, [1], None)
        for file in (
                None, True, 0, "", "123", {}, object(), [], [1, 2], [1, 2, 3, 4], [1, 2, True], [1, 2, 3.0], [1, 2, None],
                ["1", 2, 3], [[1], 2, 3], range(3), iter([1, 2, 3]), {1, 2, 3}):
            self.refused(BadNumber, ("file", file), House, store, 17, file)

    def test_errors_change_nothing(self):
        house = House(Store(NODES), 17, [1, 2, 3])
        house.mend("d")
        rows = house.present().rows
        for value in NO_STRINGS:
            self.refused(BadName, (value,), house.mend, value)
            self.refused(BadName, (value,), house.shown, value)
        for value in ("", "b", "c", "A"):
            self.refused(NoName, (value,), house.mend, value)
        for value in ("", "x", "e", "A"):
            self.refused(NoName, (value,), house.shown, value)
        for value in NO_NUMBERS + [None, -1, 4, 10 ** 30]:
            self.refused(BadNumber, ("reader", value), house.read, value)
        for value in NO_NUMBERS + [None, -1, 3, 10 ** 30]:
            self.refused(BadNumber, ("place", value), house.change, value, None)
        for value in NO_NUMBERS + [None]:
            self.refused(BadNumber, ("number", value), house.change, 1, value)
        self.assertEqual((house.past(), house.present().rows), ((("mend", "d"),), rows))
        self.check(house, [1, 2, 3])


class AgainTest(HouseCase):
    def test_all_of_it(self):
        past = [("mend", "d"), ("change", 2, -5), ("mend", "x"), ("mend", "a"), ("change", 0, 10 ** 20), ("change", 0, 4)]
        house = again(Store(NODES), 17, [1, 2, 3], past)
        self.assertIsInstance(house, House)
        self.assertEqual(house.past(), (*past[:1], ("change", 2, 12), *past[2:4], ("change", 0, 10 ** 20 % 17), past[5]))
        self.check(house, [4, 2, -5])
        once_more = again(house.store, 17, (1, 2, 3), house.past())
        self.assertEqual(once_more.past(), house.past())
        self.assertEqual(once_more.present().rows, house.present().rows)
        self.assertEqual(again(house.store, 17, [1, 2, 3], []).past(), ())

    def test_errors_as_they_are_met(self):
        store = Store(NODES)
        short = [1]
        self.refused(BadNumber, ("file", short), again, store, 17, short, [("mend", "b")])
        self.refused(NoName, ("b",), again, store, 17, [1, 2, 3], [("mend", "d"), ("mend", "b"), ("change", 9, 9)])
        self.refused(BadName, (5,), again, store, 17, [1, 2, 3], [("mend", 5), ("mend", "b")])
        self.refused(BadNumber, ("place", 3), again, store, 17, [1, 2, 3], [("change", 0, 9), ("change", 3, None)])
        self.refused(BadNumber, ("number", None), again, store, 17, [1, 2, 3], (("change", 0, None), ("mend", None)))

    def test_arguments_stay_as_they_are(self):
        store, file, past = Store(NODES), [1, 2, 3], [("change", 0, 9), ("mend", "d")]
        before = copy.copy(vars(store))
        house = again(store, 17, file, past)
        house.mend("a")
        self.assertEqual((file, past, vars(store)), ([1, 2, 3], [("change", 0, 9), ("mend", "d")], before))


if __name__ == "__main__":
    unittest.main()
