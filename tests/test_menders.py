"""Points 31 to 36: best ranks, bounds, what is sent and kept, what lasts."""

import copy
import random
import unittest
from itertools import product

import plain
from anymend.errors import BadLot, BadName, BadNumber, NoName, TooSmall
from anymend.menders import Mended, after, best_rank, field_bound, first_state, mended
from anymend.states import State, ranks, standing
from anymend.stores import Store
from cases import LARGEST, NO_LOTS, NO_PRIMES, NO_STRINGS, Case

NODES = """file 3
node a 2
node b 2
node c 2
new d 3
mend a a from b:1 c:1
mend d d from a:1 b:2 c:40
mend x a from d:2
reader a b
"""

PAIR = """file 4
node a 2
node b 2
node c 3
node d 3
pair p a b swap 1 from c:1 d:1 and d:2
pair q d a swap 0 from b:1 c:1 and c:2
pair r c d swap 40 from a:40 and b:1
mend b b from a:1 c:1 d:1
reader a b
reader c d
"""

ONE_LETTER = "file 1\nnode a 1\nnode b 1\nnew c 40\npair p a c swap 1 from b:1 and b:40\nmend b b from a:1 c:3\nreader b\n"


def in_span(rows, others, prime):
    """Whether rows are in the span of others."""
    return plain.rank(list(others) + list(rows), prime) == plain.rank(others, prime)


def flat(letters):
    return [row for sent in letters for row in sent]


class MendCase(Case):
    def check_rows(self, state, rows, most, others):
        """At most so many rows of numbers, in the span of others."""
        self.assertIsInstance(rows, tuple)
        self.assertLessEqual(len(rows), most)
        for row in rows:
            self.assertIsInstance(row, tuple)
            self.assertEqual(len(row), state.store.file)
            self.assertTrue(all(type(number) is int and 0 <= number < state.prime for number in row))
        self.assertTrue(in_span(rows, others, state.prime))

    def check_sent(self, state, letters, helpers, amounts):
        """What helpers sent one node."""
        self.assertIsInstance(letters, tuple)
        self.assertEqual(len(letters), len(helpers))
        for sent, helper, amount in zip(letters, helpers, amounts):
            self.check_rows(state, sent, amount, plain.of_lot(state, (helper,)))

    def check_mended(self, state, label, asked=None):
        """What a mend sends and keeps is allowed, and all lots have their best ranks; the state behind it.

        best_rank is asked for all lots, or for some.
        """
        store, mend = state.store, plain.mend_of(state.store, label)
        done = mended(state, label)
        self.assertIsInstance(done, Mended)
        self.assertIsInstance(done.state, State)
        self.assertIs(done.state.store, store)
        self.assertEqual(done.state.prime, state.prime)
        if mend.kind == "one":
            self.check_sent(state, done.letters, mend.helpers, mend.amounts)
            got = {mend.nodes[0]: flat(done.letters)}
        else:
            self.assertEqual(len(done.letters), 4)
            near, far, over, back = done.letters
            for letters, helpers, amounts in zip((near, far), mend.helpers, mend.amounts):
                self.check_sent(state, letters, helpers, amounts)
            self.check_rows(state, over, mend.swap, flat(near))
            self.check_rows(state, back, mend.swap, flat(far))
            got = dict(zip(mend.nodes, (flat(near) + list(back), flat(far) + list(over))))
        for name, room, held, kept in zip(store.nodes, store.rooms, state.rows, done.state.rows):
            if name in got:
                self.check_rows(state, kept, room, got[name])
            else:
                self.assertEqual(kept, held)
        ahead, behind = plain.ranks(state), plain.ranks(done.state)
        for lot in ahead:
            best = plain.best_rank(store, ahead, label, lot)
            self.assertEqual(behind[lot], best, (store.text, state.prime, state.rows, label, lot))
            if asked is None or lot in asked:
                self.assertEqual(best_rank(state, label, lot), best)
        return done.state


class BoundTest(Case):
    def test_bounds(self):
        self.assertEqual(field_bound(Store(NODES)), 2 ** 3 * 2)
        self.assertEqual(field_bound(Store(PAIR)), 2 ** 7 * 3)
        self.assertEqual(field_bound(Store(ONE_LETTER)), 0)
        self.assertEqual(field_bound(Store("file 40\nnode a 1\nreader a")), 39)
        chance = random.Random(1)
        self.assertEqual(field_bound(Store(plain.greatest_text(chance))), 2 ** 10 * 39)
        for _ in range(50):
            store = Store(plain.random_text(chance, chance.randint(2, 7), chance.randint(0, 4), 1, 3, chance.randint(1, 40)))
            self.assertEqual(field_bound(store), plain.bound(store))
            self.assertIs(type(field_bound(store)), int)


class FirstStateTest(MendCase):
    def check(self, store, prime):
        state = first_state(store, prime)
        self.assertIsInstance(state, State)
        self.assertIs(state.store, store)
        self.assertEqual(state.prime, prime)
        for lot, number in plain.ranks(state).items():
            self.assertEqual(number, min(store.file, plain.start(store, lot)), (store.text, prime, lot))

    def test_small(self):
        for text in (NODES, PAIR, ONE_LETTER):
            store = Store(text)
            for prime in (plain.prime_above(plain.bound(store)), 1009, LARGEST):
                self.check(store, prime)

    def test_by_chance(self):
        chance = random.Random(2)
        for _ in range(150):
            most = chance.choice((1, 3, 40))
            store = Store(plain.random_text(chance, chance.randint(2, 6), chance.randint(0, 1), 1, most, chance.randint(1, 9)))
            self.check(store, plain.prime_above(plain.bound(store)))

    def test_one_node(self):
        for file in (1, 2, 7, 40):
            for room in (0, 1, file, 40):
                store = Store(f"file {file}\nnode a {room}\nreader a")
                self.check(store, plain.prime_above(file - 1))

    def test_new_nodes_hold_nothing(self):
        self.assertEqual(first_state(Store(NODES), 17).rows[3], ())

    def test_at_the_limits(self):
        chance = random.Random(3)
        for rooms in (40, 6):
            store = Store(plain.greatest_text(chance, 1, 40, rooms))
            self.check(store, plain.prime_above(plain.bound(store)))

    def test_errors(self):
        store = Store(NODES)
        for prime in NO_PRIMES:
            self.refused(BadNumber, ("prime", prime), first_state, store, prime)
        for prime in (2, 3, 5, 13):
            self.refused(TooSmall, (prime, 16), first_state, store, prime)
        self.check(store, 17)
        # A prime at the bound: one node, 2 ** 0 * 2.
        store = Store("file 3\nnode a 1\nreader a")
        self.refused(TooSmall, (2, 2), first_state, store, 2)
        self.check(store, 3)
        self.refused(TooSmall, (383, 384), first_state, Store(PAIR), 383)
        self.check(Store(PAIR), 389)


class MendedTest(MendCase):
    def test_all_mends_of_small_stores(self):
        for text in (NODES, PAIR, ONE_LETTER):
            store = Store(text)
            for prime in (plain.prime_above(plain.bound(store)), 1009, LARGEST):
                state = first_state(store, prime)
                for mend in store.mends:
                    self.check_mended(state, mend.label)

    def test_histories(self):
        chance = random.Random(4)
        for _ in range(60):
            store = Store(plain.random_text(
                chance, chance.randint(2, 5), chance.randint(1, 4), 1, chance.choice((1, 2, 4)), chance.randint(1, 6)))
            state = first_state(store, plain.prime_above(plain.bound(store)))
            for _ in range(5):
                state = self.check_mended(state, chance.choice(store.mends).label)

    def test_any_state(self):
        # Rows by chance, of zeros, of one span, all equal.
        chance = random.Random(5)
        for k in range(160):
            store = Store(plain.random_text(
                chance, chance.randint(2, 4), 2, 1, chance.choice((1, 3, 40)), chance.randint(1, 5)))
            prime = plain.prime_above(plain.bound(store))
            few = [[chance.randrange(prime) for _ in range(store.file)] for _ in range(chance.randint(1, 3))]
            few.append([0] * store.file)
            rows = [[chance.choice(few) for _ in range(chance.randint(0, min(room, 6)))] for room in store.rooms]
            state = State(store, prime, rows) if k % 3 else plain.random_state(chance, store, prime)
            for mend in store.mends:
                self.check_mended(state, mend.label)

    def test_the_same_node_again_and_again(self):
        for text, label in ((NODES, "a"), (NODES, "x"), (NODES, "d"), (PAIR, "p"), (PAIR, "q"), (PAIR, "r"), (ONE_LETTER, "p")):
            store = Store(text)
            state = first_state(store, plain.prime_above(plain.bound(store)))
            for _ in range(4):
                state = self.check_mended(state, label)

    def test_helpers_that_hold_nothing(self):
        store = Store(NODES)
        state = State(store, 17, [[[1, 2, 3]], [], [], []])
        done = mended(state, "a")
        self.assertEqual((done.letters, done.state.rows), (((), ()), ((), (), (), ())))
        done = mended(state, "x")
        self.assertEqual((done.letters, done.state.rows[0]), (((),), ()))
        state = State(store, 17, [[[0, 0, 0]], [[0, 0, 0], [0, 0, 0]], [], [[0, 0, 0]]])
        self.assertEqual(plain.ranks(self.check_mended(state, "d"))[("a", "b", "c", "d")], 0)

    def test_rooms_of_0(self):
        text = "file 2\nnode a 0\nnode b 0\nnode c 2\nmend m a from c:2 b:1\npair p a b swap 2 from c:1 and c:2\nreader c"
        store = Store(text)
        state = self.check_mended(first_state(store, 67), "m")
        self.assertEqual(state.rows[0], ())
        state = self.check_mended(state, "p")
        self.assertEqual(state.rows[:2], ((), ()))

    def test_amounts_and_rooms_that_are_never_used_up(self):
        text = "file 2\nnode a 40\nnode b 40\nnode c 40\npair p a b swap 40 from c:40 and c:40\nmend m c from a:40 b:40\nreader c"
        store = Store(text)
        state = first_state(store, 67)
        for label in ("p", "m", "p", "m"):
            state = self.check_mended(state, label)
        self.assertEqual(set(plain.ranks(state).values()), {0, 2})

    def test_swaps(self):
        text = "file 4\nnode a 4\nnode b 4\nnode c 2\nnode d 2\npair p a b swap {} from c:2 and d:2\nreader a"
        for swap, number in ((0, 2), (1, 3), (2, 4), (40, 4)):
            store = Store(text.format(swap))
            state = self.check_mended(first_state(store, 389), "p")
            self.assertEqual(state.rank_of(("a",)), number)
            self.assertEqual(state.rank_of(("b",)), number)
            self.assertEqual(state.rank_of(("a", "b")), 4)

    def test_at_the_limits(self):
        chance = random.Random(6)
        for rooms, amounts in ((40, 40), (8, 5)):
            store = Store(plain.greatest_text(chance, 1, 40, rooms, amounts))
            state = first_state(store, plain.prime_above(plain.bound(store)))
            for kind in ("one", "pair"):
                label = [mend.label for mend in store.mends if mend.kind == kind][0]
                state = self.check_mended(state, label, chance.sample(plain.lots(store), 5))

    def test_classes(self):
        self.assertEqual(vars(Mended((), None)), {"letters": (), "state": None})

    def test_errors(self):
        small, large = State(Store(NODES), 13, [[]] * 4), State(Store(NODES), 17, [[]] * 4)
        for state in (small, large):
            for value in NO_STRINGS:
                self.refused(BadName, (value,), mended, state, value)
            for value in ("", "b", "c", "A", "a "):
                self.refused(NoName, (value,), mended, state, value)
        self.refused(TooSmall, (13, 16), mended, small, "a")
        self.refused(TooSmall, (383, 384), mended, State(Store(PAIR), 383, [[]] * 4), "b")
        self.check_mended(large, "a")


class BestRankTest(Case):
    def test_nothing_is_better(self):
        # All that can be sent and kept is tried.
        store = Store("file 2\nnode a 1\nnode b 1\nnode c 2\nmend m a from b:1 c:1\nreader a")
        chance = random.Random(7)
        for _ in range(6):
            state = plain.random_state(chance, store, 3, 0.8)
            best = {lot: best_rank(state, "m", lot) for lot in plain.lots(store)}
            reached = {lot: 0 for lot in best}
            for sent in product(*[self.spanned(state.rows[k]) for k in (1, 2)]):
                for kept in self.spanned(sent):
                    behind = plain.ranks(State(store, 3, [[kept], *state.rows[1:]]))
                    reached = {lot: max(reached[lot], behind[lot]) for lot in best}
            self.assertEqual(reached, best)

    def spanned(self, rows):
        """The span of rows of two numbers modulo 3."""
        return {
            tuple(sum(times * row[k] for times, row in zip(many, rows)) % 3 for k in (0, 1))
            for many in product(range(3), repeat=len(rows))}

    def test_no_prime_is_too_small(self):
        chance = random.Random(8)
        for _ in range(100):
            store = Store(plain.random_text(chance, chance.randint(2, 4), 2, 1, 3, chance.randint(1, 6)))
            state = plain.random_state(chance, store, chance.choice((2, 3, LARGEST)))
            found = plain.ranks(state)
            for mend in store.mends:
                for lot in found:
                    number = best_rank(state, mend.label, lot)
                    self.assertEqual(number, plain.best_rank(store, found, mend.label, lot))
                    self.assertIs(type(number), int)

    def test_rows_of_the_mended_nodes_do_not_count(self):
        store = Store(NODES)
        state = State(store, 17, [[[1, 0, 0], [0, 1, 0]], [[0, 0, 1]], [[0, 0, 1]], []])
        self.assertEqual(best_rank(state, "a", ("a",)), 1)
        self.assertEqual(best_rank(state, "a", ("a", "b")), 1)
        self.assertEqual(best_rank(state, "d", ("d",)), 2)
        self.assertEqual(best_rank(state, "d", ("a",)), 2)

    def test_errors(self):
        for prime in (2, 17):
            state = State(Store(NODES), prime, [[]] * 4)
            for value in NO_STRINGS:
                self.refused(BadName, (value,), best_rank, state, value, None)
            for value in ("", "b", "A"):
                self.refused(NoName, (value,), best_rank, state, value, ("b", "a"))
            for lot in NO_LOTS:
                self.refused(BadLot, (lot,), best_rank, state, "a", lot)


class AfterTest(MendCase):
    def test_mended_one_by_one(self):
        chance = random.Random(9)
        for _ in range(40):
            store = Store(plain.random_text(chance, chance.randint(2, 4), chance.randint(1, 3), 1, 3, chance.randint(1, 4)))
            state = first_state(store, plain.prime_above(plain.bound(store)))
            history = [chance.choice(store.mends).label for _ in range(chance.randint(0, 6))]
            found, step = plain.ranks(state), state
            for label in history:
                found = {lot: plain.best_rank(store, found, label, lot) for lot in found}
                step = mended(step, label).state
            behind = after(state, chance.choice((list, tuple))(history))
            self.assertIs(behind.store, store)
            self.assertEqual(plain.ranks(behind), found)
            self.assertEqual(behind.rows, step.rows)

    def test_the_empty_history(self):
        state = first_state(Store(NODES), 17)
        behind = after(state, [])
        self.assertEqual((behind.rows, behind.prime), (state.rows, 17))

    def test_forty_mends(self):
        store = Store(PAIR)
        state = after(first_state(store, 389), ["p", "b", "q", "r"] * 10)
        self.assertEqual(dict(ranks(state)), plain.ranks(state))

    def test_errors(self):
        small, large = State(Store(NODES), 13, [[]] * 4), State(Store(NODES), 17, [[]] * 4)
        for state in (small, large):
            for value in NO_STRINGS:
                self.refused(BadName, (value,), after, state, ["a", value, "b"])
            self.refused(NoName, ("b",), after, state, ["a", "b", None])
            self.refused(NoName, ("c",), after, state, ("c", "b"))
        for history in ([], (), ["a"], ["d", "a", "x"]):
            self.refused(TooSmall, (13, 16), after, small, history)


class LastingTest(Case):
    def test_what_lasts_goes_on_to_last(self):
        chance = random.Random(10)
        kinds = {}
        for _ in range(150):
            store = Store(plain.random_text(
                chance, chance.randint(2, 4), chance.randint(1, 4), chance.randint(1, 2), 4, chance.randint(1, 4)))
            state = first_state(store, plain.prime_above(plain.bound(store)))
            for _ in range(4):
                ahead = standing(state).mends
                state = mended(state, chance.choice(store.mends).label).state
                behind = standing(state).mends
                kinds[ahead] = kinds.get(ahead, 0) + 1
                if ahead is None:
                    self.assertIsNone(behind)
                elif behind is not None:
                    self.assertGreaterEqual(behind, ahead - 1)
        self.assertTrue({None, -1, 0, 1} <= set(kinds), kinds)

    def test_starts_last_as_long_as_their_stores(self):
        chance = random.Random(11)
        from anymend.demands import lasts
        for _ in range(100):
            store = Store(plain.random_text(chance, chance.randint(2, 5), 3, 2, 4, chance.randint(1, 4)))
            self.assertEqual(standing(first_state(store, LARGEST)).mends, lasts(store))


class SameTest(Case):
    def test_equal_calls_and_unchanged_arguments(self):
        for text in (NODES, PAIR):
            store = Store(text)
            state = first_state(store, 1009)
            self.assertEqual(first_state(store, 1009).rows, state.rows)
            before = copy.copy(vars(state)), copy.copy(vars(store))
            history = ["b" if text == PAIR else "a"]
            for mend in store.mends:
                one, other = mended(state, mend.label), mended(state, mend.label)
                self.assertEqual((one.letters, one.state.rows), (other.letters, other.state.rows))
            self.assertEqual(after(state, history).rows, after(state, history).rows)
            self.assertEqual((vars(state), vars(store), len(history)), (*before, 1))


if __name__ == "__main__":
    unittest.main()
