"""Points 37 to 42: places, rows, least numbers, tight places."""

import copy
import random
import unittest

import plain
from anymend.demands import greatest_file, lasts
from anymend.errors import BadName, BadNumber, NoName
from anymend.numbers import (
    Row, least_amount, least_room, least_row, least_swap, places, row_without, tight)
from anymend.stores import Store
from cases import NO_NUMBERS, NO_STRINGS, Case

WHOLE = """file 4
node a 2
new b 3
node c 40
node d 0
mend one a from b:1 c:40
pair two a b swap 0 from c:2 and d:3 c:1
mend b b from d:7
reader a b:0 c:40
reader d
reader c:3
"""

CHAIN = """file 2
node a 2
node b 2
node c 2
mend ab b from a:1
mend bc c from b:2
reader c
reader a:1 b:1
"""

# Pairs whose nodes fall out of the lot and are brought in again.
AGAIN = """file 1
node a 1
node b 2
node c 3
new d 2
pair m0 d a swap 0 from c:2 and b:2
pair m1 c b swap 0 from a:1 and d:3 a:1
mend m2 b from d:3
mend m3 b from d:3 c:2 a:3
reader d:1 b c:0 a
"""

BAD_MENDS = NO_NUMBERS + [-1, -10 ** 30]


class NumbersCase(Case):
    def check_row(self, store, row, mends, total):
        """A Row of at most so many steps with this total."""
        self.assertIsInstance(row, Row)
        self.assertIsNone(plain.row_fault(store, row, mends), (store.text, vars(row)))
        numbers = plain.places(store)
        self.assertEqual(sum(numbers[place] * times for place, times in row.uses), total, (store.text, vars(row)))


class PlacesTest(NumbersCase):
    def test_all_kinds_in_order(self):
        self.assertEqual(places(Store(WHOLE)), (
            (("room", "a"), 2), (("room", "b"), 3), (("room", "c"), 40), (("room", "d"), 0),
            (("link", "one", "a", "b"), 1), (("link", "one", "a", "c"), 40),
            (("link", "two", "a", "c"), 2), (("link", "two", "b", "d"), 3), (("link", "two", "b", "c"), 1),
            (("swap", "two"), 0), (("link", "b", "b", "d"), 7),
            (("limit", 0, "b"), 0), (("limit", 0, "c"), 40), (("limit", 2, "c"), 3)))

    def test_one_node(self):
        self.assertEqual(places(Store("file 1\nnode a 0\nreader a")), ((("room", "a"), 0),))

    def test_by_chance(self):
        chance = random.Random(37)
        for _ in range(100):
            store = Store(plain.random_text(chance, chance.randint(2, 6), chance.randint(0, 8), chance.randint(1, 4), 40, 9))
            self.assertEqual(places(store), tuple(plain.places(store).items()))


class LeastRowTest(NumbersCase):
    def test_a_chain(self):
        store = Store(CHAIN)
        row = least_row(store)
        self.check_row(store, row, None, 1)
        self.assertEqual(row.steps[-2:], (("ab", ("b",)), ("bc", ("c",))))
        self.assertEqual((row.reader, row.uses), (0, ((("link", "ab", "b", "a"), 1),)))
        for mends, total in ((0, 2), (1, 2), (2, 1), (3, 1), (10 ** 12, 1)):
            self.check_row(store, least_row(store, mends), mends, total)

    def test_all_rows_tried(self):
        chance = random.Random(38)
        for _ in range(120):
            store = Store(plain.random_text(chance, chance.randint(2, 3), chance.randint(0, 3), chance.randint(1, 3)))
            for mends in (0, 1, 2, None):
                uses = plain.least_uses(store, mends)
                least = min(plain.total(plain.places(store), each) for each in uses)
                self.check_row(store, least_row(store, mends), mends, least)
                self.assertEqual(greatest_file(store, mends), least)

    def test_the_greatest_file_is_its_total(self):
        chance = random.Random(39)
        for _ in range(80):
            store = Store(plain.random_text(
                chance, chance.randint(4, 6), chance.randint(0, 12), chance.randint(1, 8), chance.choice((3, 40)), 40))
            for mends in (None, 0, 1, 3, 10 ** 12):
                self.check_row(store, least_row(store, mends), mends, greatest_file(store, mends))

    def test_a_node_that_is_brought_in_again(self):
        store = Store(AGAIN)
        totals = [3, 1, 1, 1, 1, 1, 0, 0]
        for mends, total in enumerate(totals):
            self.check_row(store, least_row(store, mends), mends, total)
        row = least_row(store)
        self.check_row(store, row, None, 0)
        names = [name for _, taken in row.steps for name in taken]
        self.assertGreater(len(names), len(set(names)))

    def test_a_place_that_is_used_more_than_once(self):
        # d falls out when c is brought in by m0, and is brought in by its room again.
        text = (
            "file 6\nnode a 2\nnode b 2\nnode c 3\nnode d 0\npair m0 d c swap 0 from b:2 a:2 and a:2\n"
            "pair m3 b a swap 0 from c:1 d:3 and c:1 d:3\nreader d a b\n")
        store = Store(text)
        numbers = plain.places(store)
        uses = plain.least_uses(store, 4)
        totals = [plain.total(numbers, each) for each in uses]
        self.assertTrue(all(max(each) > 1 for each, total in zip(uses, totals) if total == min(totals)))
        row = least_row(store, 4)
        self.check_row(store, row, 4, min(totals))
        self.assertIn((("room", "d"), 2), row.uses)
        self.check_row(store, least_row(store), None, min(totals))

    def test_new_nodes_cost_nothing_at_the_start(self):
        store = Store("file 3\nnode a 2\nnew b 3\nreader a b")
        self.assertEqual(least_row(store).uses, ((("room", "a"), 1),))

    def test_limits(self):
        store = Store("file 3\nnode a 2\nnode b 3\nreader a\nreader a:0 b:1\nreader a:40 b:1")
        row = least_row(store)
        self.check_row(store, row, None, 1)
        self.assertEqual((row.reader, row.lot), (1, ()))
        self.assertEqual(row.uses, ((("limit", 1, "a"), 1), (("limit", 1, "b"), 1)))

    def test_classes(self):
        uses = ((("room", "a"), 2),)
        self.assertEqual(
            vars(Row(("a",), (("m", ("a",)),), 0, uses)),
            {"lot": ("a",), "steps": (("m", ("a",)),), "reader": 0, "uses": uses})

    def test_errors(self):
        store = Store(CHAIN)
        for mends in BAD_MENDS:
            self.refused(BadNumber, ("mends", mends), least_row, store, mends)
            self.refused(BadNumber, ("mends", mends), tight, store, mends)

    def test_mends_by_name(self):
        store = Store(CHAIN)
        self.check_row(store, least_row(store, mends=1), 1, 2)
        self.assertEqual(least_room(store, "c", mends=0), 2)
        self.assertEqual(least_amount(store, "ab", "b", "a", mends=1), 1)
        self.assertEqual(tight(store, mends=2), tight(store, 2))
        self.assertIsNone(row_without(store, ("link", "ab", "b", "a"), mends=None))
        self.assertEqual(least_swap(Store(AGAIN), "m0", mends=0), 0)


class LeastNumbersTest(NumbersCase):
    def asked(self, store, place, mends):
        """What is told of the least number at a place."""
        if place[0] == "room":
            return least_room(store, place[1], mends)
        if place[0] == "link":
            return least_amount(store, *place[1:], mends)
        return least_swap(store, place[1], mends)

    def test_all_numbers_tried(self):
        chance = random.Random(40)
        kinds = {}
        for _ in range(150):
            store = Store(plain.random_text(
                chance, 3, chance.randint(1, 3), chance.randint(1, 2), 3, chance.randint(1, 4)))
            numbers = plain.places(store)
            for mends in (0, 1, None):
                uses = plain.least_uses(store, mends)
                for place in numbers:
                    if place[0] == "limit":
                        continue
                    enough = [
                        number for number in range(41)
                        if min(plain.total({**numbers, place: number}, each) for each in uses) >= store.file]
                    found = self.asked(store, place, mends)
                    self.assertEqual(found, enough[0] if enough else None, (store.text, place, mends))
                    if found is not None:
                        self.assertIs(type(found), int)
                        self.assertLessEqual(found, store.file)
                        self.assertEqual(enough, list(range(found, 41)))
                    kinds[(place[0], found is None)] = kinds.get((place[0], found is None), 0) + 1
        self.assertEqual(len(kinds), 6)

    def test_stores_with_these_numbers(self):
        # With the number in the text the store lasts, with one less it does not.
        text = "file 5\nnode a {}\nnode b 3\nnode c 3\nmend m a from b:{} c:2\nmend n b from a:2 c:2\nreader a b\nreader b c"
        store = Store(text.format(3, 2))
        self.assertIsNone(lasts(store))
        self.assertEqual((least_room(store, "a"), least_amount(store, "m", "a", "b")), (3, 2))
        self.assertIsNotNone(lasts(Store(text.format(2, 2))))
        self.assertIsNotNone(lasts(Store(text.format(3, 1))))
        self.assertIsNone(lasts(Store(text.format(40, 40))))
        self.assertIsNone(least_room(Store(text.format(3, 2).replace("file 5", "file 7")), "a"))

    def test_no_number_is_enough(self):
        store = Store(WHOLE)
        for mends in (None, 0, 3, 10 ** 12):
            self.assertIsNone(least_room(store, "a", mends))
            self.assertIsNone(least_amount(store, "two", "b", "c", mends))
            self.assertIsNone(least_swap(store, "two", mends))

    def test_swaps(self):
        text = (
            "file {}\nnode a 4\nnode b 4\nnode c 4\nnode d 4\n"
            "pair p a b swap 0 from c:1 d:1 and c:1 d:1\nreader a c:1\nreader b d")
        # 3 without a swap, 4 with 1, 5 with 2 or more.
        for file, least in ((1, 0), (3, 0), (4, 1), (5, 2), (6, None)):
            store = Store(text.format(file))
            self.assertEqual(least_swap(store, "p"), least)
            self.assertEqual(least_swap(store, "p", 1), least)
        self.assertEqual(least_swap(Store(text.format(5)), "p", 0), 0)

    def test_helpers_that_need_not_send(self):
        store = Store("file 1\nnode a 1\nnode b 1\nnode c 1\nmend m a from b:1 c:1\nreader a b")
        self.assertEqual(least_amount(store, "m", "a", "b"), 0)
        self.assertEqual(least_amount(store, "m", "a", "c"), 0)
        self.assertEqual(least_room(store, "c"), 0)
        self.assertEqual(least_room(store, "a", 0), 0)
        # With a alone no helper is needed until it is mended; then one is enough.
        store = Store("file 2\nnode a 2\nnode b 2\nnode c 2\nmend m a from b:1 c:2\nreader a")
        self.assertEqual(least_amount(store, "m", "a", "c", 0), 0)
        self.assertEqual(least_amount(store, "m", "a", "c", 1), 1)
        self.assertEqual(least_amount(store, "m", "a", "b"), 0)

    def test_room_errors(self):
        store = Store(WHOLE)
        for value in NO_STRINGS:
            self.refused(BadName, (value,), least_room, store, value, -1)
        for value in ("", "e", "one", "A", "a "):
            self.refused(NoName, (value,), least_room, store, value, -1)
        for mends in BAD_MENDS:
            self.refused(BadNumber, ("mends", mends), least_room, store, "a", mends)

    def test_amount_errors(self):
        store = Store(WHOLE)
        for value in NO_STRINGS:
            self.refused(BadName, (value,), least_amount, store, value, None, 5, -1)
            self.refused(BadName, (value,), least_amount, store, "none", value, None, -1)
            self.refused(BadName, (value,), least_amount, store, "none", "none", value, -1)
        self.refused(NoName, ("x",), least_amount, store, "x", "y", "z", -1)
        self.refused(NoName, ("a",), least_amount, store, "a", "y", "z", -1)
        for label, node in (("one", "y"), ("one", "b"), ("b", "a"), ("two", "c"), ("two", "two")):
            self.refused(NoName, (node,), least_amount, store, label, node, "z", -1)
        for label, node, helper in (
                ("one", "a", "z"), ("one", "a", "d"), ("one", "a", "a"), ("two", "a", "d"), ("two", "b", "a"),
                ("b", "b", "c"), ("two", "a", "b")):
            self.refused(NoName, (helper,), least_amount, store, label, node, helper, -1)
        for mends in BAD_MENDS:
            self.refused(BadNumber, ("mends", mends), least_amount, store, "two", "b", "d", mends)

    def test_swap_errors(self):
        store = Store(WHOLE)
        for value in NO_STRINGS:
            self.refused(BadName, (value,), least_swap, store, value, -1)
        for value in ("", "a", "one", "b", "Two"):
            self.refused(NoName, (value,), least_swap, store, value, -1)
        for mends in BAD_MENDS:
            self.refused(BadNumber, ("mends", mends), least_swap, store, "two", mends)


class TightTest(NumbersCase):
    def test_all_rows_tried(self):
        chance = random.Random(41)
        kinds = {True: 0, False: 0}
        for _ in range(120):
            store = Store(plain.random_text(chance, 3, chance.randint(0, 3), chance.randint(1, 2)))
            numbers = plain.places(store)
            for mends in (0, 2, None):
                uses = plain.least_uses(store, mends)
                totals = [plain.total(numbers, each) for each in uses]
                least = [each for each, total in zip(uses, totals) if total == min(totals)]
                needed = tuple(place for at, place in enumerate(numbers) if all(each[at] > 0 for each in least))
                self.assertEqual(tight(store, mends), needed, (store.text, mends))
                for place in numbers:
                    row = row_without(store, place, mends)
                    kinds[row is None] += 1
                    if place in needed:
                        self.assertIsNone(row)
                    else:
                        self.check_row(store, row, mends, min(totals))
                        self.assertNotIn(place, dict(row.uses))
        self.assertGreater(min(kinds.values()), 100)

    def test_one_letter_more(self):
        chance = random.Random(42)
        for _ in range(40):
            store = Store(plain.random_text(chance, chance.randint(4, 6), chance.randint(1, 8), 2, 5, 9))
            for mends in (None, 1, 10 ** 12):
                found = tight(store, mends)
                for name, room in zip(store.nodes, store.rooms):
                    lines = [
                        f"{line.split()[0]} {name} {room + 1}" if line.split()[1] == name and line.split()[0] in ("node", "new")
                        else line for line in store.text.splitlines()]
                    more = greatest_file(Store("\n".join(lines)), mends) > greatest_file(store, mends)
                    self.assertEqual(("room", name) in found, more)

    def test_small(self):
        store = Store(CHAIN)
        self.assertEqual(tight(store), (("link", "ab", "b", "a"),))
        self.assertEqual(tight(store, 0), ())
        self.assertIsNone(row_without(store, ("link", "ab", "b", "a")))
        row = row_without(store, ("link", "ab", "b", "a"), 1)
        self.check_row(store, row, 1, 2)

    def test_errors(self):
        store = Store(WHOLE)
        for place in [*NO_STRINGS, ("room", "e"), ("room",), ("room", "a", "a"), ["room", "a"], ("link", "one", "a", "d"),
                      ("link", "one", "b", "a"), ("swap", "one"), ("limit", 0, "a"), ("limit", 1, "b"), ("limit", False, "b"),
                      ("limit", 0.0, "b"), ("limit", "0", "b"), ("limit", -1, "b"), ("limit", 2, "b"), (("room", "a"), 2),
                      ("room", ["a"]), ("room", {}), (), "room", ("file",), ("", ""), (["room"], "a"), ("limit", 0, None)]:
            self.refused(NoName, (place,), row_without, store, place)
            self.refused(NoName, (place,), row_without, store, place, -1)
        for mends in BAD_MENDS:
            self.refused(BadNumber, ("mends", mends), row_without, store, ("room", "a"), mends)


class LimitsTest(NumbersCase):
    def test_stores_at_the_limits(self):
        chance = random.Random(43)
        for _ in range(3):
            store = Store(plain.random_text(chance, 6, 12, 8, 40, 40))
            for mends in (None, 12, 10 ** 12):
                total = greatest_file(store, mends)
                self.check_row(store, least_row(store, mends), mends, total)
                found = tight(store, mends)
                for place in plain.places(store):
                    row = row_without(store, place, mends)
                    self.assertEqual(row is None, place in found)
                    if row is not None:
                        self.check_row(store, row, mends, total)
                self.assertTrue({least_room(store, name, mends) for name in store.nodes} <= {None, *range(41)})


class SameTest(NumbersCase):
    def test_equal_calls_and_unchanged_arguments(self):
        chance = random.Random(44)
        for _ in range(20):
            store = Store(plain.random_text(chance, 4, 4, 2))
            before = copy.copy(vars(store))
            for mends in (0, 2, None):
                self.assertEqual(vars(least_row(store, mends)), vars(least_row(store, mends)))
                for place in plain.places(store):
                    one, other = row_without(store, place, mends), row_without(store, place, mends)
                    self.assertEqual(one and vars(one), other and vars(other))
            self.assertEqual(vars(store), before)


if __name__ == "__main__":
    unittest.main()
