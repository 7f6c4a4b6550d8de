"""Points 20 to 26: histories, their nets, greatest flows, rows of lots and their prices."""

import copy
import random
import unittest

import plain
from anymend.demands import bar, greatest_file
from anymend.errors import BadLot, BadName, BadNumber, NoName
from anymend.histories import Flow, Net, cut_price, flow_to
from anymend.stores import Store

SMALL = """file 4
node a 3
new b 2
node c 2
node d 4
mend m b from a:2 c:1
pair p b c swap 1 from d:2 a:1 and d:1
mend a a from b:1 d:3
reader b c
reader a:2 b:0 d
reader b:1
"""

NO_READERS = [None, True, False, "", "0", 1.0, [], [0], (0,), {}, object(), int, -1, 3, 10 ** 30]


class Case(unittest.TestCase):
    def refused(self, error, fields, function, *arguments):
        with self.assertRaises(error) as caught:
            function(*arguments)
        found = tuple(vars(caught.exception).values())
        self.assertEqual(len(found), len(fields))
        for one, other in zip(found, fields):
            self.assertIs(one, other)

    def whole(self, number, most=None):
        """An integer from 0 on, at most as great as told."""
        self.assertIs(type(number), int)
        self.assertGreaterEqual(number, 0)
        if most is not None:
            self.assertLessEqual(number, most)

    def check_flow(self, net, reader):
        """The flow is one, as point 21 tells, and its cut has its total as price."""
        store, flow = net.store, flow_to(net, reader)
        self.assertIsInstance(flow, Flow)
        for numbers in (flow.kept, flow.links, flow.out, flow.cut):
            self.assertIsInstance(numbers, tuple)
        rooms = dict(zip(store.nodes, store.rooms))
        present, ahead, goes_on = {}, list(flow.kept), {}
        for node in store.nodes:
            if not store.is_new(node):
                present[node] = len(goes_on)
                goes_on[present[node]] = 0
                self.whole(ahead.pop(0), rooms[node])
        self.assertEqual(len(flow.links), len(net.history))
        for label, links in zip(net.history, flow.links):
            mend = plain.mend_of(store, label)
            sums = self.check_links(mend, links, present, goes_on)
            for node, comes in zip(mend.nodes, sums):
                present[node] = len(goes_on)
                goes_on[present[node]] = 0
                kept = ahead.pop(0)
                self.whole(kept, rooms[node])
                self.assertEqual(kept, comes)
        self.assertEqual(ahead, [])
        self.assertEqual(len(flow.out), len(store.readers[reader]))
        for (node, limit), number in zip(store.readers[reader], flow.out):
            self.whole(number, limit if node in present else 0)
            if number:
                goes_on[present[node]] += number
        self.assertEqual(list(flow.kept), list(goes_on.values()))
        self.assertIs(type(flow.total), int)
        self.assertEqual(flow.total, sum(flow.out))
        self.check_cut(net, reader, flow)
        return flow

    def check_links(self, mend, links, present, goes_on):
        """What goes to the pieces of a mend, node by node."""
        self.assertIsInstance(links, tuple)
        rows = list(plain.rows_of(mend).values())
        if mend.kind == "one":
            return [self.check_row(rows[0], links, present, goes_on)]
        self.assertEqual(len(links), 3)
        one, other = [self.check_row(row, sent, present, goes_on) for row, sent in zip(rows, links)]
        self.assertIsInstance(links[2], tuple)
        across, back = links[2]
        self.whole(across, min(mend.swap, one))
        self.whole(back, min(mend.swap, other))
        return [one - across + back, other - back + across]

    def check_row(self, row, sent, present, goes_on):
        """The sum of what goes over the links to one node."""
        self.assertIsInstance(sent, tuple)
        self.assertEqual(len(sent), len(row))
        for (helper, amount), number in zip(row.items(), sent):
            self.whole(number, amount if helper in present else 0)
            if number:
                goes_on[present[helper]] += number
        return sum(sent)

    def check_cut(self, net, reader, flow):
        store, cut = net.store, flow.cut
        self.assertEqual(len(cut), len(net.history) + 1)
        total, lot = plain.start(store, cut[0]), cut[0]
        self.assertIn(lot, plain.lots(store))
        for label, behind in zip(net.history, cut[1:]):
            mended = plain.mend_of(store, label).nodes
            self.assertEqual(plain.in_order(store, set(behind) - set(mended)),
                             plain.in_order(store, set(lot) - set(mended)))
            self.assertIn(behind, plain.lots(store))
            total += plain.price(store, label, lot, plain.in_order(store, set(behind) & set(mended)))
            lot = behind
        self.assertEqual(total + plain.limits(store, reader, lot), flow.total, (store.text, net.history, reader))
        self.assertEqual(cut_price(net, reader, cut), flow.total)


class NetTest(Case):
    def test_attributes(self):
        store = Store(SMALL)
        for history in ((), ("m",), ("m", "p", "a", "m", "m")):
            net = Net(store, history)
            self.assertIs(net.store, store)
            self.assertEqual(net.history, history)
            self.assertIsInstance(Net(store, list(history)).history, tuple)
            self.assertEqual(Net(store, list(history)).history, history)

    def test_the_list_is_copied(self):
        history = ["m", "p"]
        net = Net(Store(SMALL), history)
        history.append("x")
        history[0] = "a"
        self.assertEqual(net.history, ("m", "p"))

    def test_errors(self):
        store = Store(SMALL)
        for history in (None, True, 0, "", "m", "mpa", b"m", {}, {"m": 1}, {"m"}, 1.5, object(), iter(["m"]), range(0)):
            self.refused(BadName, (history,), Net, store, history)
        for label in (None, True, 0, b"m", [], ["m"], ("m",), {}, object(), 1.5):
            for history in ([label], ("m", label), ["m", label, "x"], ("m", label, 5), [label, "m"]):
                self.refused(BadName, (label,), Net, store, history)
        for label in ("", "x", "b", "c", "M", "m "):
            for history in ([label], ("m", label), ["m", label, None], ("m", label, "y"), [label, []]):
                self.refused(NoName, (label,), Net, store, history)


class FlowTest(Case):
    def test_an_empty_history(self):
        net = Net(Store(SMALL), ())
        flow = self.check_flow(net, 0)
        self.assertEqual((flow.total, flow.links, flow.out, len(flow.kept)), (2, (), (0, 2), 3))
        flow = self.check_flow(net, 1)
        self.assertEqual((flow.total, flow.kept, flow.out), (6, (2, 0, 4), (2, 0, 4)))
        flow = self.check_flow(net, 2)
        self.assertEqual((flow.total, flow.kept, flow.out), (0, (0, 0, 0), (0,)))

    def test_a_mend_and_a_pair(self):
        net = Net(Store(SMALL), ["m"])
        self.assertEqual([self.check_flow(net, reader).total for reader in range(3)], [4, 6, 1])
        net = Net(Store(SMALL), ["m", "p"])
        flow = self.check_flow(net, 0)
        self.assertEqual(len(flow.kept), 6)
        self.assertEqual([len(row) for row in flow.links], [2, 3])
        self.assertEqual([len(row) for row in flow.links[1]], [2, 1, 2])
        # b and c get 3 and 1 letters; b keeps 2 and sends c the third one.
        self.assertEqual((flow.total, flow.out, flow.links[1]), (4, (2, 2), ((2, 1), (1,), (1, 0))))

    def test_helpers_that_hold_nothing(self):
        store = Store("file 2\nnode a 2\nnew b 2\nnew c 2\nmend m a from b:2 c:2\nmend b b from a:2\nreader a\nreader b a")
        flow = self.check_flow(Net(store, ["m"]), 0)
        self.assertEqual((flow.total, flow.kept, flow.links, flow.out), (0, (0, 0), ((0, 0),), (0,)))
        flow = self.check_flow(Net(store, ["b", "m"]), 0)
        self.assertEqual((flow.total, flow.kept, flow.links), (2, (2, 2, 2), ((2,), (2, 0))))
        self.assertEqual(self.check_flow(Net(store, ["b", "m"]), 1).total, 2)

    def test_the_total_may_be_above_the_file(self):
        store = Store("file 1\nnode a 40\nnode b 40\nmend m a from b:40\nreader a b")
        self.assertEqual(self.check_flow(Net(store, ()), 0).total, 80)
        self.assertEqual(self.check_flow(Net(store, ("m",)), 0).total, 40)

    def test_limits_of_0_and_swaps_of_0(self):
        text = (
            "file 2\nnode a 2\nnode b 2\nnode c 4\npair p a b swap {} from c:3 and c:1\n"
            "reader a:0 b:0\nreader a b\nreader b")
        store = Store(text.format(0))
        self.assertEqual([self.check_flow(Net(store, ("p",)), reader).total for reader in range(3)], [0, 3, 1])
        store = Store(text.format(1))
        self.assertEqual([self.check_flow(Net(store, ("p",)), reader).total for reader in range(3)], [0, 4, 2])

    def test_least_prices_of_all_rows_of_lots(self):
        chance = random.Random(21)
        for _ in range(150):
            store = Store(plain.random_text(chance, chance.randint(2, 4), chance.randint(1, 3), 2, 4))
            labels = [mend.label for mend in store.mends]
            history = tuple(chance.choices(labels, k=chance.randint(0, 3)))
            net = Net(store, history)
            for reader in (0, 1):
                self.assertEqual(self.check_flow(net, reader).total, plain.least_cut(store, history, reader))

    def test_longer_histories(self):
        chance = random.Random(22)
        for _ in range(150):
            store = Store(plain.random_text(chance, chance.randint(2, 6), chance.randint(1, 6), 2, 9, news=2))
            labels = [mend.label for mend in store.mends]
            history = tuple(chance.choices(labels, k=chance.randint(4, 12)))
            net = Net(store, history)
            for reader in (0, 1):
                self.assertEqual(self.check_flow(net, reader).total, plain.least_cut_by_lots(store, history, reader))

    def test_histories_at_the_limits(self):
        chance = random.Random(23)
        for most in (3, 40, 40):
            store = Store(plain.greatest_text(chance, 3, 40, 40, most))
            history = tuple(chance.choices([mend.label for mend in store.mends], k=40))
            net = Net(store, history)
            for reader in range(3):
                self.assertEqual(self.check_flow(net, reader).total, plain.least_cut_by_lots(store, history, reader))

    def test_the_least_flow_of_all_histories_is_the_greatest_file(self):
        chance = random.Random(24)
        for _ in range(40):
            store = Store(plain.random_text(chance, chance.randint(2, 4), chance.randint(1, 3), 2))
            for mends in (0, 1, 2, 3):
                least = min(
                    flow_to(Net(store, history), reader).total
                    for history in plain.histories(store, mends) for reader in (0, 1))
                self.assertEqual(greatest_file(store, mends), least, store.text)

    def test_the_cut_of_a_bar_bounds_its_flow(self):
        chance = random.Random(25)
        found = 0
        for _ in range(100):
            store = Store(plain.random_text(chance, 4, 4, 2, news=0))
            shown = bar(store)
            if shown is None:
                continue
            found += 1
            net = Net(store, shown.history)
            lots = [shown.lot]
            for label, taken in zip(shown.history, shown.taken):
                mended = plain.mend_of(store, label).nodes
                lots.append(plain.in_order(store, set(lots[-1]) - set(mended) | set(taken)))
            self.assertEqual(cut_price(net, shown.reader, tuple(lots)), shown.total)
            self.assertLessEqual(flow_to(net, shown.reader).total, shown.total)
        self.assertGreater(found, 50)

    def test_errors(self):
        net = Net(Store(SMALL), ("m",))
        for reader in NO_READERS:
            self.refused(BadNumber, ("reader", reader), flow_to, net, reader)

    def test_class(self):
        flow = Flow(3, (1, 2), ((0,),), (3,), (("a",), ()))
        self.assertEqual(
            vars(flow), {"total": 3, "kept": (1, 2), "links": ((0,),), "out": (3,), "cut": (("a",), ())})


class CutPriceTest(Case):
    def test_a_row_of_lots(self):
        net = Net(Store(SMALL), ("m", "p"))
        # The room of d, then b by the link of a and that of c, then both out of nothing.
        self.assertEqual(cut_price(net, 0, (("d",), ("b", "d"), ("b", "c", "d"))), 4 + 2 + 1)
        self.assertEqual(cut_price(net, 0, (("d",), ("d",), ("b", "c", "d"))), 4 + 1)
        # A new node counts 0 at the start.
        self.assertEqual(cut_price(net, 2, (("b",), ("b",), ("b",))), 0 + 2 + 2)
        self.assertEqual(cut_price(net, 2, ((), (), ())), 1)
        self.assertIsNone(cut_price(net, 0, ((), (), ("b",))))
        self.assertIsNone(cut_price(net, 0, ((), (), ())))
        self.assertEqual(cut_price(net, 1, (("d",), ("d",), ("d",))), 4 + 2)
        self.assertIsNone(cut_price(net, 1, (("a",), ("a",), ("a",))))
        self.assertEqual(cut_price(Net(Store(SMALL), []), 1, (("a", "d"),)), 7)

    def test_all_rows_of_lots(self):
        chance = random.Random(26)
        for _ in range(60):
            store = Store(plain.random_text(chance, chance.randint(2, 4), chance.randint(1, 3), 2))
            history = tuple(chance.choices([mend.label for mend in store.mends], k=chance.randint(0, 2)))
            net = Net(store, history)
            totals = [flow_to(net, reader).total for reader in (0, 1)]
            for lots, cost in plain.rows_of_lots(store, history):
                for reader in (0, 1):
                    outside = plain.limits(store, reader, lots[-1])
                    found = cut_price(net, reader, lots)
                    self.assertEqual(found, None if outside is None else cost + outside)
                    if found is not None:
                        self.assertLessEqual(totals[reader], found)

    def test_wrong_readers(self):
        net = Net(Store(SMALL), ("m",))
        for reader in NO_READERS:
            self.refused(BadNumber, ("reader", reader), cut_price, net, reader, ((), ()))
            self.refused(BadNumber, ("reader", reader), cut_price, net, reader, None)

    def test_wrong_rows_of_lots(self):
        net = Net(Store(SMALL), ("m",))
        for lots in (
                None, True, 0, "", "ab", [], [(), ()], {}, object(), (), ((),), ((), (), ()), (5, 5, 5), (("x",),),
                iter([(), ()]), {(): 1, ("a",): 2}):
            self.refused(BadNumber, ("lots", lots), cut_price, net, 0, lots)

    def test_wrong_lots(self):
        net = Net(Store(SMALL), ("m", "p"))
        wrong = [None, 0, "", "b", [], ["b"], {"b"}, ("x",), ("c", "b"), ("b", "b"), (None,), (["b"],), object()]
        for lot in wrong:
            self.refused(BadLot, (lot,), cut_price, net, 0, (lot, (), ()))
            self.refused(BadLot, (lot,), cut_price, net, 0, ((), lot, ()))
            self.refused(BadLot, (lot,), cut_price, net, 0, ((), (), lot))
            self.refused(BadLot, (lot,), cut_price, net, 0, (lot, ("a", "a"), ("x",)))
            self.refused(BadLot, (lot,), cut_price, net, 0, ((), lot, None))

    def test_lots_that_differ_by_other_nodes(self):
        net = Net(Store(SMALL), ("m", "p"))
        for lots, at in (
                (((), ("a",), ("a",)), 1), ((("a",), ("b",), ("b",)), 1), ((("c",), ("b",), ()), 1),
                (((), ("b", "c"), ("b", "c")), 1), (((), ("b",), ("a", "b")), 2), ((("d",), ("b", "d"), ("b", "c")), 2),
                (((), ("a",), ("x",)), 1), (((), (), ("c", "d")), 2), ((("a",), (), None), 1)):
            self.refused(BadLot, (lots[at],), cut_price, net, 0, lots)
        # All nodes of a pair may come and go at once.
        self.assertEqual(cut_price(net, 2, (("c",), ("b", "c"), ())), 2 + 2 + 0 + 1)


class SameTest(Case):
    def test_equal_calls_and_unchanged_arguments(self):
        chance = random.Random(27)
        for _ in range(20):
            store = Store(plain.random_text(chance, 4, 3, 2))
            net = Net(store, chance.choices([mend.label for mend in store.mends], k=5))
            before = copy.copy(vars(net)), copy.copy(vars(store))
            for reader in (0, 1):
                one, other = flow_to(net, reader), flow_to(net, reader)
                self.assertEqual(vars(one), vars(other))
                cut_price(net, reader, one.cut)
            self.assertEqual((vars(net), vars(store)), before)


if __name__ == "__main__":
    unittest.main()
