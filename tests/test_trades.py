"""Points 43 to 46: rooms against amounts."""

import copy
import random
import unittest
from fractions import Fraction
from itertools import combinations
from math import gcd

import plain
from anymend.errors import BadNumber
from anymend.numbers import Row
from anymend.stores import Store
from anymend.trades import Never, Trade, form_of, least_at, trade
from cases import LARGEST, NO_NUMBERS, Case

NO_RATIOS = [value for value in NO_NUMBERS if value != ()] + [
    None, (), (1,), (1, 0), (1, -2), (1, 2, 3), [1, 2], (1.0, 2), (1, True), (True, 2), ("1", 2), (1, None), "1/2",
    -1, (-1, 2), (-10 ** 30, 1), -10 ** 30]


def equal_nodes(nodes, helpers, read, file):
    """Nodes with the room 1, of which any so many mend each one by an amount of 1, and any so many are a reader."""
    names = "abcde"[:nodes]
    lines = [f"file {file}"] + [f"node {name} 1" for name in names]
    for name in names:
        for k, row in enumerate(combinations([other for other in names if other != name], helpers)):
            lines.append(f"mend {name}{k} {name} from " + " ".join(f"{other}:1" for other in row))
    lines += ["reader " + " ".join(row) for row in combinations(names, read)]
    return Store("\n".join(lines))


def fraction(ratio):
    return Fraction(*ratio) if isinstance(ratio, tuple) else Fraction(ratio)


def forms(store):
    """The forms of all rows, but those that use more than others."""
    found = set()
    for uses in plain.least_uses(store, None):
        sums = {"room": 0, "link": 0, "swap": 0, "limit": 0}
        for (place, number), times in zip(plain.places(store).items(), uses):
            sums[place[0]] += number * times
        found.add((sums["room"], sums["link"] + sums["swap"], sums["limit"]))
    return found


def total(form, a, b):
    return form[0] * a + form[1] * b + form[2]


def corners(lines, file):
    """The corners of what lies above all lines of forms, None if nothing does."""
    if any((x, y) == (0, 0) and z < file for x, y, z in lines):
        return None
    rows = [(x, y, file - z) for x, y, z in lines] + [(1, 0, 0), (0, 1, 0)]
    found = set()
    for (x, y, c), (u, v, d) in combinations(rows, 2):
        if x * v != u * y:
            a, b = Fraction(c * v - d * y, x * v - u * y), Fraction(x * d - u * c, x * v - u * y)
            if a >= 0 and b >= 0 and all(total(form, a, b) >= file for form in lines):
                found.add((a, b))
    return sorted(found)


class TradeCase(Case):
    def check_ratio(self, ratio):
        self.assertIsInstance(ratio, tuple)
        top, bottom = ratio
        self.assertEqual((type(top), type(bottom)), (int, int))
        self.assertGreater(bottom, 0)
        self.assertEqual(gcd(top, bottom), 1)

    def form_told(self, store, row):
        """The form of a Row that is right."""
        self.assertIsInstance(row, Row)
        self.assertIsNone(plain.row_fault(store, row), (store.text, vars(row)))
        numbers = plain.places(store)
        sums = [
            sum(numbers[place] * times for place, times in row.uses if place[0] in kinds)
            for kinds in (("room",), ("link", "swap"), ("limit",))]
        found = form_of(store, row)
        self.assertEqual(found, tuple(sums))
        self.assertIsInstance(found, tuple)
        return found

    def check_trade(self, store, expected):
        """A Trade with these corners, whose sides go through the corners at their ends; a Never for None."""
        found = trade(store)
        if expected is None:
            self.assertIsInstance(found, Never, store.text)
            x, y, z = self.form_told(store, found.row)
            self.assertEqual((x, y), (0, 0))
            self.assertLess(z, store.file)
            return
        self.assertIsInstance(found, Trade, store.text)
        for corner in found.corners:
            self.assertIsInstance(corner, tuple)
            for ratio in corner:
                self.check_ratio(ratio)
        told = [tuple(fraction(ratio) for ratio in corner) for corner in found.corners]
        self.assertEqual(told, expected, store.text)
        self.assertIsInstance(found.sides, tuple)
        self.assertEqual(len(found.sides), len(told) + 1)
        ends = [[told[0], (told[0][0], told[0][1] + 1)], *zip(told, told[1:]), [told[-1], (told[-1][0] + 1, told[-1][1])]]
        for k, (side, piece) in enumerate(zip(found.sides, ends)):
            self.assertEqual(side is None, k == len(told) and told[-1][1] == 0)
            if side is not None:
                form = self.form_told(store, side)
                self.assertEqual([total(form, a, b) for a, b in piece], [store.file] * 2)


class CornersTest(TradeCase):
    def test_small(self):
        # a by its room 2, or by 3 letters of b.
        store = Store("file 6\nnode a 2\nnode b 3\nmend m a from b:3\nreader a\nreader b")
        found = trade(store)
        self.assertEqual(found.corners, (((3, 1), (2, 1)),))
        self.assertEqual([form_of(store, side) for side in found.sides], [(2, 0, 0), (0, 3, 0)])

    def test_without_mends(self):
        store = Store("file 5\nnode a 3\nnode b 1\nreader a b\nreader a b:2")
        found = trade(store)
        self.assertEqual(found.corners, (((5, 4), (0, 1)),))
        self.assertIsNone(found.sides[1])
        self.assertEqual(form_of(store, found.sides[0]), (4, 0, 0))

    def test_limits_below_the_file(self):
        store = Store("file 5\nnode a 3\nnode b 1\nreader a b\nreader a:2 b:2")
        found = trade(store)
        self.assertIsInstance(found, Never)
        self.assertEqual(form_of(store, found.row), (0, 0, 4))
        self.assertIsInstance(trade(Store(store.text.replace("b:2", "b:3"))), Trade)

    def test_new_nodes_alone(self):
        found = trade(Store("file 1\nnode a 3\nnew b 3\nmend m b from a:3\nreader b"))
        self.assertIsInstance(found, Never)
        self.assertEqual((found.row.lot, found.row.uses), (("b",), ()))

    def test_zeros_that_are_told(self):
        for text in (
                "file 1\nnode a 0\nreader a",
                "file 1\nnode a 1\nnode b 0\nmend m a from b:1\nreader a\nreader b",
                "file 2\nnode a 2\nnode b 2\nnode c 2\npair p a b swap 0 from c:1 and c:1\nreader a b"):
            self.check_trade(Store(text), corners(forms(Store(text)), Store(text).file))
        # A swap of 0 is of no use: a is mended by its own link alone.
        text = "file 2\nnode a 2\nnode b 2\nnode c 2\npair p a b swap 0 from c:1 and c:1\nreader a"
        self.check_trade(Store(text), [(Fraction(1), Fraction(2))])

    def test_equal_nodes(self):
        for nodes, helpers, read, file in ((4, 3, 2, 1), (4, 3, 3, 12), (4, 2, 2, 7), (5, 4, 4, 40), (3, 2, 2, 1)):
            store = equal_nodes(nodes, helpers, read, file)
            lines = [(i, sum(helpers - k for k in range(i, read)), 0) for i in range(read + 1)]
            self.check_trade(store, corners(lines, file))

    def test_all_rows_tried(self):
        chance = random.Random(46)
        kinds = {}
        for _ in range(250):
            nodes, mends, file = chance.randint(2, 3), chance.randint(0, 4), chance.randint(1, 9)
            text = plain.random_text(chance, nodes, mends, chance.randint(1, 2), chance.choice((2, 5)), file)
            if chance.random() < 0.7:
                text = plain.strong_text(chance, nodes, mends, chance.randint(1, 2), 4, file, 0.1)
            store = Store(text)
            expected = corners(forms(store), store.file)
            self.check_trade(store, expected)
            kinds[expected and len(expected)] = kinds.get(expected and len(expected), 0) + 1
        self.assertTrue({None, 1, 2, 3} <= set(kinds), kinds)

    def test_at_the_limits(self):
        chance = random.Random(48)
        for _ in range(6):
            store = Store(plain.strong_text(chance, 5, 12, 8, 40, 40))
            found = trade(store)
            told = [tuple(fraction(ratio) for ratio in corner) for corner in found.corners]
            # A corner holds the file with nothing to spare; the sides go through the corners at their ends.
            lines = {self.form_told(store, side) for side in found.sides if side is not None}
            for a, b in told:
                row = least_at(store, a.as_integer_ratio(), b.as_integer_ratio())
                self.assertEqual(total(self.form_told(store, row), a, b), store.file)
            self.check_trade(store, corners(lines, store.file))

    def test_classes(self):
        self.assertEqual(vars(Trade((), (None,))), {"corners": (), "sides": (None,)})
        self.assertEqual(vars(Never(None)), {"row": None})


class LeastAtTest(TradeCase):
    def test_all_rows_tried(self):
        chance = random.Random(49)
        for _ in range(100):
            store = Store(plain.random_text(chance, chance.randint(2, 3), chance.randint(0, 3), 2, 4))
            lines = forms(store)
            for a, b in (
                    (1, 1), (0, 0), (0, (3, 7)), ((5, 3), 0), ((6, 4), (10, 4)), ((0, 9), 2), (10 ** 40, (1, 10 ** 40)),
                    ((1, 10 ** 40), (LARGEST, 3)), ((chance.randint(0, 9), chance.randint(1, 9)), chance.randint(0, 3))):
                row = least_at(store, a, b)
                least = min(total(form, fraction(a), fraction(b)) for form in lines)
                self.assertEqual(total(self.form_told(store, row), fraction(a), fraction(b)), least)

    def test_pairs_that_hold_the_file(self):
        store = equal_nodes(4, 3, 3, 12)
        for corner in trade(store).corners:
            a, b = corner
            for less, holds in (((a, b), True), (((a[0] * 99, a[1] * 100), b), False), ((a, (b[0] * 101, b[1] * 100)), True)):
                row = least_at(store, *less)
                self.assertEqual(total(self.form_told(store, row), *map(fraction, less)) >= 12, holds)

    def test_errors(self):
        store = Store("file 5\nnode a 3\nnode b 1\nmend m a from b:1\nreader a b")
        for value in NO_RATIOS:
            self.refused(BadNumber, ("a", value), least_at, store, value, 1)
            self.refused(BadNumber, ("a", value), least_at, store, value, None)
            self.refused(BadNumber, ("b", value), least_at, store, (0, 5), value)


class FormTest(TradeCase):
    def test_all_kinds_of_places(self):
        store = Store(
            "file 4\nnode a 2\nnew b 3\nnode c 40\nmend one a from b:5 c:40\npair two a b swap 7 from c:2 and c:1\n"
            "reader a b:11")
        uses = ((("room", "a"), 3), (("link", "one", "a", "b"), 2), (("swap", "two"), 1), (("limit", 0, "b"), 1))
        self.assertEqual(form_of(store, Row((), (), 0, uses)), (6, 17, 11))
        self.assertEqual(form_of(store, Row((), (), 0, ())), (0, 0, 0))


class SameTest(TradeCase):
    def test_equal_calls_and_unchanged_arguments(self):
        chance = random.Random(50)
        for _ in range(20):
            store = Store(plain.random_text(chance, 4, 4, 2))
            before = copy.copy(vars(store))
            one, other = trade(store), trade(store)
            if isinstance(one, Never):
                self.assertEqual(vars(one.row), vars(other.row))
            else:
                self.assertEqual(one.corners, other.corners)
                self.assertEqual([row and vars(row) for row in one.sides], [row and vars(row) for row in other.sides])
            self.assertEqual(vars(least_at(store, 2, (1, 3))), vars(least_at(store, 2, (1, 3))))
            self.assertEqual(vars(store), before)


if __name__ == "__main__":
    unittest.main()
