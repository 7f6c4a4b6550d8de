"""Points 47 to 51: the cheapest rooms and amounts, and the papers that show it."""

import copy
import random
import unittest
from fractions import Fraction
from math import gcd

import plain
from anymend.errors import BadNumber
from anymend.numbers import Row
from anymend.plans import Plan, cheapest, least_with, total_with
from anymend.stores import Store
from anymend.trades import Never
from cases import Case
from test_trades import NO_RATIOS

SMALL = """file 4
node a 2
node b 3
node c 2
mend m b from a:2 c:2
pair p a c swap 1 from b:1 and b:2
reader a c
reader b a:3
"""


def fraction(ratio):
    return Fraction(*ratio) if isinstance(ratio, tuple) else Fraction(ratio)


def plan_places(store):
    return [place for place in plain.places(store) if place[0] != "limit"]


def random_prices(chance, store):
    """Prices of several kinds: small ones with zeros, ratios, all alike, great ones."""
    kind = chance.randrange(5)
    return [
        (chance.randint(0, 3), (chance.randint(0, 50), chance.randint(1, 50)), 1, chance.randint(0, 10 ** 12),
         chance.choice((0, 0, 1)))[kind]
        for _ in plan_places(store)]


class PlanCase(Case):
    def check_ratio(self, ratio):
        self.assertIsInstance(ratio, tuple)
        top, bottom = ratio
        self.assertEqual((type(top), type(bottom)), (int, int))
        self.assertGreater(bottom, 0)
        self.assertGreaterEqual(top, 0)
        self.assertEqual(gcd(top, bottom), 1)

    def total(self, store, numbers, row):
        """The total of a Row that is right."""
        self.assertIsInstance(row, Row)
        self.assertIsNone(plain.row_fault(store, row), (store.text, vars(row)))
        told = {**plain.places(store), **dict(zip(plan_places(store), map(fraction, numbers)))}
        return sum((told[place] * times for place, times in row.uses), Fraction(0))

    def check_plan(self, store, prices, uses=None):
        """A Plan whose papers add up, or a Never; uses are those of all rows, if they are known."""
        found = cheapest(store, prices)
        places, limits = plan_places(store), plain.places(store)
        if isinstance(found, Never):
            self.assertLess(self.total(store, [0] * len(places), found.row), store.file)
            self.assertTrue(all(place[0] == "limit" for place, _ in found.row.uses))
            return found
        self.assertIsInstance(found, Plan)
        self.check_ratio(found.cost)
        self.assertIsInstance(found.numbers, tuple)
        self.assertEqual(len(found.numbers), len(places))
        for number in found.numbers:
            self.check_ratio(number)
        # The numbers hold the file and cost what is told.
        least = self.total(store, found.numbers, least_with(store, found.numbers))
        self.assertGreaterEqual(least, store.file)
        if uses is not None:
            told = {**limits, **dict(zip(places, map(fraction, found.numbers)))}
            self.assertEqual(min(plain.total(told, each) for each in uses), least)
        cost = sum(fraction(number) * fraction(price) for number, price in zip(found.numbers, prices))
        self.assertEqual(fraction(found.cost), cost)
        # The weighted rows use no place more than its price allows, and add up to the cost.
        self.assertIsInstance(found.weights, tuple)
        used, worth = {place: Fraction(0) for place in places}, Fraction(0)
        for pair in found.weights:
            self.assertIsInstance(pair, tuple)
            weight, row = pair
            self.check_ratio(weight)
            self.assertGreater(fraction(weight), 0)
            self.assertIsNone(plain.row_fault(store, row), (store.text, vars(row)))
            worth += fraction(weight) * store.file
            for place, times in row.uses:
                if place[0] == "limit":
                    worth -= fraction(weight) * limits[place] * times
                else:
                    used[place] += fraction(weight) * times
        self.assertEqual(worth, cost)
        for place, price in zip(places, prices):
            self.assertLessEqual(used[place], fraction(price))
        return found


class CheapestTest(PlanCase):
    def test_small(self):
        # b is cheaper by its link from a than by its room alone, but needs both.
        store = Store("file 6\nnode a 0\nnode b 0\nmend m b from a:1\nreader a\nreader b")
        found = self.check_plan(store, [1, (2, 4), 3])
        self.assertEqual(found.cost, (27, 1))
        self.assertEqual(found.numbers, ((6, 1), (6, 1), (6, 1)))
        found = self.check_plan(store, (0, 0, 0))
        self.assertEqual(found.cost, (0, 1))

    def test_one_node(self):
        store = Store("file 7\nnode a 0\nreader a")
        found = self.check_plan(store, [(5, 3)])
        self.assertEqual((found.cost, found.numbers), ((35, 3), ((7, 1),)))
        self.assertEqual([weight for weight, _ in found.weights], [(5, 3)])

    def test_parts_of_letters(self):
        # Any two of three nodes hold the file at the cost of half of it for each.
        store = Store("file 5\nnode a 1\nnode b 1\nnode c 1\nreader a b\nreader a c\nreader b c")
        found = self.check_plan(store, [1, 1, 1])
        self.assertEqual((found.cost, found.numbers), ((15, 2), ((5, 2),) * 3))

    def test_what_the_store_tells_of_rooms_does_not_matter(self):
        one = Store(SMALL)
        other = Store(SMALL.replace("c 2", "c 40").replace("a:2", "a:7").replace("swap 1", "swap 0"))
        prices = [1, 2, (3, 2), 4, 5, 6, 7, (1, 8)]
        self.assertEqual(self.check_plan(one, prices).cost, self.check_plan(other, prices).cost)

    def test_limits_below_the_file(self):
        store = Store("file 5\nnode a 3\nnode b 1\nreader a b\nreader a:2 b:2")
        found = self.check_plan(store, [1, 1])
        self.assertIsInstance(found, Never)
        self.assertEqual([place for place, _ in found.row.uses], [("limit", 1, "a"), ("limit", 1, "b")])
        self.assertIsInstance(self.check_plan(Store(store.text.replace("b:2", "b:3")), [1, 1]), Plan)

    def test_new_nodes_alone(self):
        store = Store("file 1\nnode a 3\nnew b 3\nmend m b from a:3\nreader b")
        found = self.check_plan(store, [1, 1, 1])
        self.assertIsInstance(found, Never)
        self.assertEqual(found.row.uses, ())

    def test_all_rows_tried(self):
        chance = random.Random(47)
        kinds = {}
        for _ in range(200):
            nodes, file = chance.randint(2, 3), chance.randint(1, 9)
            text = plain.random_text(chance, nodes, chance.randint(0, 3), chance.randint(1, 3), 4, file)
            if chance.random() < 0.7:
                text = plain.strong_text(chance, nodes, chance.randint(0, 4), chance.randint(1, 3), 4, file, 0.2)
            store = Store(text)
            uses = plain.least_uses(store, None)
            found = self.check_plan(store, random_prices(chance, store), uses)
            kinds[type(found)] = kinds.get(type(found), 0) + 1
            # No choice holds the file if a row uses limits alone.
            rooms = len(plan_places(store))
            alone = [each for each in uses if not any(each[:rooms])]
            never = any(plain.total(plain.places(store), each) < store.file for each in alone)
            self.assertEqual(isinstance(found, Never), never)
        self.assertGreater(min(kinds.values()), 15)

    def test_at_the_limits(self):
        chance = random.Random(48)
        for k in range(12):
            store = Store(plain.strong_text(chance, 4, 10, 8, 3, chance.choice((3, 40)), 0.1 * (k % 2), 0.9))
            self.check_plan(store, random_prices(chance, store))

    def test_classes(self):
        self.assertEqual(vars(Plan((1, 2), (), ())), {"cost": (1, 2), "numbers": (), "weights": ()})

    def test_errors(self):
        store = Store(SMALL)
        for prices in (None, True, 0, "", "12345678", {}, {0: 1}, set(), object(), iter([1] * 8), range(8)):
            self.refused(BadNumber, ("prices", prices), cheapest, store, prices)
        for many in (0, 1, 7, 9, 100):
            self.refused(BadNumber, ("prices", many), cheapest, store, [1] * many)
            self.refused(BadNumber, ("prices", many), cheapest, store, (None,) * many)
        for value in NO_RATIOS:
            for at in (0, 3, 7):
                self.refused(BadNumber, ("price", value), cheapest, store, [1] * at + [value] * (8 - at))
                self.refused(BadNumber, ("price", value), cheapest, store, ((0, 2),) * at + (value,) + ("x",) * (7 - at))


class LeastWithTest(PlanCase):
    def test_all_rows_tried(self):
        chance = random.Random(49)
        for _ in range(100):
            store = Store(plain.random_text(chance, chance.randint(2, 3), chance.randint(0, 3), 2, 4))
            uses = plain.least_uses(store, None)
            for _ in range(3):
                numbers = random_prices(chance, store)
                told = {**plain.places(store), **dict(zip(plan_places(store), map(fraction, numbers)))}
                row = least_with(store, numbers)
                least = min(plain.total(told, each) for each in uses)
                self.assertEqual(self.total(store, numbers, row), least)
                self.check_ratio(total_with(store, numbers, row))
                self.assertEqual(fraction(total_with(store, tuple(numbers), row)), least)

    def test_any_row(self):
        store = Store(SMALL)
        numbers = [1, (2, 6), 3, (0, 4), 5, 6, (7, 2), 8]
        row = Row(("a",), (), 1, ((("room", "a"), 2), (("room", "b"), 3), (("link", "m", "b", "a"), 4), (("swap", "p"), 1),
                                  (("limit", 1, "a"), 1)))
        self.assertEqual(total_with(store, numbers, row), (14, 1))
        self.assertEqual(total_with(store, [(1, 3)] * 8, row), (19, 3))
        self.assertEqual(total_with(store, numbers, Row((), (), 0, ())), (0, 1))

    def test_errors(self):
        store = Store(SMALL)
        row = least_with(store, [1] * 8)
        for function, more in ((least_with, ()), (total_with, (row,))):
            for numbers in (None, True, 0, "", {}, object(), range(8)):
                self.refused(BadNumber, ("numbers", numbers), function, store, numbers, *more)
            for many in (0, 7, 9):
                self.refused(BadNumber, ("numbers", many), function, store, [None] * many, *more)
            for value in NO_RATIOS:
                self.refused(BadNumber, ("number", value), function, store, [0, 1, value, None, 1, 1, 1, 1], *more)


class SameTest(PlanCase):
    def test_equal_calls_and_unchanged_arguments(self):
        store = Store(SMALL)
        before = copy.copy(vars(store))
        prices = [1, (2, 6), 3, (0, 4), 5, 6, (7, 2), 8]
        one, other = cheapest(store, prices), cheapest(store, prices)
        self.assertEqual((one.cost, one.numbers), (other.cost, other.numbers))
        self.assertEqual(
            [(weight, vars(row)) for weight, row in one.weights], [(weight, vars(row)) for weight, row in other.weights])
        self.assertEqual(prices, [1, (2, 6), 3, (0, 4), 5, 6, (7, 2), 8])
        self.assertEqual(vars(store), before)


if __name__ == "__main__":
    unittest.main()
