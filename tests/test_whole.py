"""What holds over the whole program: errors in their order, and parts that tell one truth."""

import random
import unittest

import plain
from anymend import errors
from anymend.demands import bar, demand, demands, greatest_file, lasts, way
from anymend.desk import Desk
from anymend.errors import BadLot, BadName, BadNumber, BadText, NoName, TooSmall
from anymend.fields import echelon, rank_of, solved
from anymend.histories import Net, cut_price, flow_to
from anymend.liars import found_among, stands
from anymend.menders import after, best_rank, first_state, mended
from anymend.numbers import least_room, least_row, places
from anymend.runs import House, again
from anymend.states import State, gets, standing
from anymend.stores import Store
from anymend.turns import Turns, bar_by, demand_by, demands_by, lasts_by, standing_by
from cases import LARGEST, NO_LOTS, NO_NUMBERS, NO_PRIMES, Case

TEXT = """file 3
node a 2
node b 2
node c 2
mend a a from b:1 c:1
mend b b from a:1 c:1
reader a b
reader c b:1
"""


def some_stores(seed, many):
    """Stores of which some last for ever, some a while and some not at all."""
    chance = random.Random(seed)
    for k in range(many):
        nodes, mends, file = chance.randint(2, 4), chance.randint(0, 4), chance.randint(1, 4)
        if k % 2:
            yield Store(plain.strong_text(chance, nodes, mends, 2, 4, file, 0.2))
        else:
            yield Store(plain.random_text(chance, nodes, mends, 2, 4, file))


class ErrorsTest(Case):
    def test_primes_go_ahead_of_all_else(self):
        store = Store(TEXT)
        for prime in NO_PRIMES:
            for function, more in (
                    (State, (None,)), (first_state, ()), (House, (None,)), (again, (None, None))):
                self.refused(BadNumber, ("prime", prime), function, store, prime, *more)
            for function in (rank_of, echelon):
                self.refused(BadNumber, ("prime", prime), function, None, prime)
            self.refused(BadNumber, ("prime", prime), solved, None, None, prime)

    def test_small_primes(self):
        store = Store(TEXT)
        state = State(store, 7, [[], [], []])
        for function, arguments in (
                (first_state, (store, 7)), (House, (store, 7, None)), (mended, (state, "a")), (after, (state, []))):
            self.refused(TooSmall, (7, 8), function, *arguments)
        # Nothing of this hangs on the bound.
        self.assertEqual(best_rank(state, "a", ("a",)), 0)
        self.assertEqual(standing(state).mends, -1)
        self.assertFalse(gets(state, 0))

    def test_lots_readers_and_mends(self):
        store = Store(TEXT)
        turns, state = Turns(store, "state s\nturn * * s"), first_state(store, 11)
        for lot in NO_LOTS:
            for function, arguments in (
                    (way, (store, lot, 9, -1)), (demand, (store, lot, -1)), (demand_by, (turns, "s", lot, -1)),
                    (state.rank_of, (lot,)), (best_rank, (state, "a", lot))):
                self.refused(BadLot, (lot,), function, *arguments)
        for value in NO_NUMBERS + [None, -1, 2]:
            for function, arguments in (
                    (way, (store, ("a",), value, -1)), (flow_to, (Net(store, []), value)),
                    (cut_price, (Net(store, []), value, None)), (gets, (state, value)),
                    (stands, (store, value, -1, -1, -1)), (found_among, (state, value, None, -1)),
                    (House(store, 11, [1, 2, 3]).read, (value,))):
                self.refused(BadNumber, ("reader", value), function, *arguments)
        for value in NO_NUMBERS + [-1]:
            for function, arguments in (
                    (way, (store, ("a",), 0, value)), (demand, (store, (), value)), (demands, (store, value)),
                    (greatest_file, (store, value)), (bar, (store, value)), (least_row, (store, value)),
                    (least_room, (store, "a", value)), (demand_by, (turns, "s", (), value)), (demands_by, (turns, "s", value)),
                    (bar_by, (turns, value)), (standing_by, (turns, "s", state, value)), (stands, (store, 0, 0, 0, value))):
                self.refused(BadNumber, ("mends", value), function, *arguments)

    def test_texts(self):
        # The same wrong line in a store, at a desk, by put and by edit.
        wrong = TEXT.replace("node c 2", "node c 41")
        for line, function, arguments in (
                (4, Store, (wrong,)), (5, Desk, ("store s\n" + wrong,)), (14, Desk, ("store r\n" + TEXT + "store s\n" + wrong,)),
                (5, Desk("store s\n" + TEXT).put, ("store s\n" + wrong,)), (4, Desk("store s\n" + TEXT).edit, ("s", 4, "node c 41"))):
            self.refused(BadText, (line, 3), function, *arguments)

    def test_names_at_the_desk(self):
        desk = Desk("store s\n" + TEXT)
        store = desk.get_store("s")
        for function, arguments in (
                (desk.holds, ("s room x 1 ever",)), (desk.keep, ("s room x 1 ever",)), (least_room, (store, "x")),
                (desk.holds, ("s link x a b 1 ever",)), (store.mend_of, ("x",)), (store.is_new, ("x",))):
            self.refused(NoName, ("x",), function, *arguments)
        self.refused(BadName, (5,), least_room, store, 5, -1)

    def test_all_errors_are_apart(self):
        for name in vars(errors):
            kind = getattr(errors, name)
            if isinstance(kind, type) and kind is not errors.MendError:
                self.assertEqual(kind.__bases__, (errors.MendError,))


class OneTruthTest(Case):
    def test_what_lasts(self):
        kinds = set()
        for store in some_stores(80, 150):
            many = lasts(store)
            kinds.add(many)
            turns = Turns(store, "state s t\nturn s * t\nturn t * s")
            self.assertEqual(lasts_by(turns), many)
            self.assertEqual(standing(first_state(store, LARGEST)).mends, many)
            desk = Desk("turns t on s\n" + turns.text + "\nstore s\n" + store.text)
            for mends in (0, 1, 2, 40, None):
                holds = many is None or (mends is not None and mends <= many)
                told = "ever" if mends is None else mends
                self.assertEqual(bar(store, mends) is None, holds)
                self.assertEqual(bar_by(turns, mends) is None, holds)
                self.assertEqual(greatest_file(store, mends) >= store.file, holds)
                self.assertEqual(desk.holds(f"s lasts {told}")[0], holds)
                self.assertEqual(desk.holds(f"t lasts {told}")[0], holds)
                self.assertEqual(desk.holds(f"s file {store.file} {told}")[0], holds)
                readers = [desk.holds(f"s reads {reader} {told}")[0] for reader in range(len(store.readers))]
                self.assertEqual(all(readers), holds)
                for reader, reads in enumerate(readers):
                    self.assertEqual(stands(store, reader, 0, 0, mends) is None, reads)
                row = least_row(store, mends)
                numbers = dict(places(store))
                self.assertEqual(sum(numbers[place] * times for place, times in row.uses), greatest_file(store, mends))
                self.assertEqual(demands_by(turns, "s", mends), demands(store, mends))
                self.assertIs(standing_by(turns, "t", first_state(store, LARGEST), mends) is None, holds)
        self.assertTrue({None, -1, 0, 1} <= kinds, kinds)

    def test_the_history_of_a_bar(self):
        checked = 0
        for store in some_stores(81, 150):
            found = bar(store)
            if found is None:
                continue
            checked += 1
            net = Net(store, found.history)
            flow = flow_to(net, found.reader)
            self.assertLessEqual(flow.total, found.total)
            self.assertLess(found.total, store.file)
            # The lots of the cut, mend by mend.
            lots, lot = [found.lot], found.lot
            for label, taken in zip(found.history, found.taken):
                lot = plain.in_order(store, set(lot) - set(store.mend_of(label).nodes) | set(taken))
                lots.append(lot)
            self.assertEqual(cut_price(net, found.reader, tuple(lots)), found.total)
            # A house that is mended by this history is not read any more, and by none that is shorter.
            house = House(store, LARGEST, [7] * store.file)
            for label in found.history:
                self.assertEqual([house.read(reader) for reader in range(len(store.readers))],
                                 [(7,) * store.file] * len(store.readers))
                house.mend(label)
            self.assertIsNone(house.read(found.reader))
            self.assertEqual(standing(house.present()).mends, -1)
        self.assertGreater(checked, 50)

    def test_flows_and_houses(self):
        # Free mixtures let each reader get as much as the greatest flow, or the whole file.
        chance = random.Random(82)
        for store in some_stores(83, 100):
            if not store.mends:
                continue
            history = [chance.choice(store.mends).label for _ in range(chance.randint(0, 5))]
            file = tuple(range(1, store.file + 1))
            house = again(store, LARGEST, file, [("mend", label) for label in history])
            for reader in range(len(store.readers)):
                total = flow_to(Net(store, history), reader).total
                self.assertEqual(house.read(reader), file if total >= store.file else None)
                self.assertEqual(gets(house.present(), reader), total >= store.file)

    def test_least_rooms(self):
        for store in some_stores(84, 60):
            desk = Desk("store s\n" + store.text)
            for name in store.nodes:
                for mends in (0, 1, None):
                    told = "ever" if mends is None else mends
                    least = least_room(store, name, mends)
                    for number in (0, 1, 2, 5, 40):
                        self.assertEqual(
                            desk.holds(f"s room {name} {number} {told}")[0], least is not None and least <= number)
                    at = [line.split(" ")[1:2] for line in store.text.split("\n")].index([name]) + 1
                    for number in {0, 1, 5, 40} if least is None else {least, least - 1, least + 1} & set(range(41)):
                        word = "new" if store.is_new(name) else "node"
                        desk.edit("s", at, f"{word} {name} {number}")
                        self.assertEqual(desk.holds(f"s lasts {told}")[0], least is not None and number >= least)
                        desk.undo()


if __name__ == "__main__":
    unittest.main()
