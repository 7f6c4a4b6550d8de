"""Points 52 to 55: machines of histories."""

import copy
import random
import re
import unittest
from itertools import product

import plain
from anymend.demands import Bar, bar, demands, lasts
from anymend.errors import BadLot, BadName, BadNumber, BadText, NoName
from anymend.menders import first_state, mended
from anymend.states import State
from anymend.stores import Store
from anymend.turns import Short, Turns, bar_by, demand_by, demands_by, lasts_by, standing_by
from cases import LARGEST, NO_LOTS, NO_NUMBERS, NO_STRINGS, Case

STORE = """file 2
node a 2
node b 2
node c 2
mend ab b from a:1
mend bc c from b:2
pair p a b swap 0 from c:1 and c:2
reader c
reader a:1 b:1
"""

# ab must be followed by p, and then nothing comes.
TEXT = """state one two end
turn one ab two
turn two p end
"""

BAD_MENDS = NO_NUMBERS + [-1, -10 ** 30]


def wrong_at(labels, text):
    """Where the text of a machine is wrong, or None."""
    lines = text.split("\n")
    if lines[-1] == "":
        lines = lines[:-1]
    if not lines:
        return (1, 1)
    states = []
    for number, line in enumerate(lines, 1):
        words = line.split(" ")
        if number == 1:
            if words[0] != "state":
                return (1, 1)
            for at, word in enumerate(words[1:], 2):
                if not re.fullmatch("[a-z][a-z0-9]{0,11}", word) or word in states or len(states) == 12:
                    return (1, at)
                states.append(word)
            if not states:
                return (1, 2)
            continue
        allowed = [["turn"], states + ["*"], labels + ["*"], states]
        for at, right in enumerate(allowed):
            if at >= len(words) or words[at] not in right:
                return (number, at + 1)
        if len(words) > 4:
            return (number, 5)
    return None


def nexts_of(store, text):
    """The dict of the next states, by trying for each one all lines from the last on."""
    lines = [line.split(" ") for line in text.strip("\n").split("\n")]
    found = {}
    for state, mend in product(lines[0][1:], store.mends):
        fits = [line[3] for line in lines[1:] if line[1] in ("*", state) and line[2] in ("*", mend.label)]
        found[(state, mend.label)] = fits[-1] if fits else None
    return found


def ways_by(store, nexts, states, mends):
    """The least ways from all states and lots within 0, 1, .. up to so many mends, None where there is none."""
    end = {lot: min(
        (limit for limit in (plain.limits(store, reader, lot) for reader in range(len(store.readers))) if limit is not None),
        default=None) for lot in plain.lots(store)}
    tables = [{(state, lot): end[lot] for state in states for lot in end}]
    for _ in range(mends):
        last = tables[-1]
        tables.append({
            (state, lot): min(
                [total for total in [end[lot]] if total is not None] + [
                    cost + last[(nexts[(state, label)], behind)]
                    for label, _, behind, cost in plain.steps(store, lot)
                    if nexts[(state, label)] is not None and last[(nexts[(state, label)], behind)] is not None],
                default=None)
            for state, lot in last})
    return tables


def let_histories(store, nexts, state, mends):
    """All histories of at most so many mends that are let from a state on."""
    found, ahead = [()], {(): state}
    for history in found:
        if len(history) < mends:
            for mend in store.mends:
                further = nexts[(ahead[history], mend.label)]
                if further is not None:
                    found.append(history + (mend.label,))
                    ahead[history + (mend.label,)] = further
    return found


def demand(store, total):
    return 0 if total is None else max(0, store.file - total)


def random_machine(chance, store, states):
    """The text of a machine with so many states."""
    names = ["s", "t", "u", "v", "w", "x", "y"][:states]
    labels = [mend.label for mend in store.mends]
    lines = ["state " + " ".join(names)]
    for _ in range(chance.randint(0, 3 * states)):
        lines.append(
            f"turn {chance.choice(names + ['*'])} {chance.choice(labels * 2 + ['*'])} {chance.choice(names)}")
    return "\n".join(lines) + chance.choice(("", "\n"))


class TurnsCase(Case):
    def check_bar(self, turns, nexts, mends, many):
        """A Bar of so many mends that are let, whose cut adds up to its total; no Bar for None."""
        store, found = turns.store, bar_by(turns, mends)
        if many is None or (mends is not None and mends < many):
            self.assertIsNone(found)
            return
        self.assertIsInstance(found, Bar)
        self.assertEqual((len(found.history), len(found.taken)), (many, many), (store.text, turns.text))
        state, lot, cost = turns.states[0], found.lot, plain.start(store, found.lot)
        for label, taken in zip(found.history, found.taken):
            ((_, _, lot, more),) = [step for step in plain.steps(store, lot) if step[:2] == (label, taken)]
            cost, state = cost + more, nexts[(state, label)]
            self.assertIsNotNone(state)
        self.assertEqual(found.total, cost + plain.limits(store, found.reader, lot))
        self.assertLess(found.total, store.file)


class ReadingTest(TurnsCase):
    def refused_at(self, store, text, line, column):
        with self.assertRaises(BadText) as caught:
            Turns(store, text)
        self.assertEqual((caught.exception.line, caught.exception.column), (line, column), text)

    def test_attributes(self):
        store = Store(STORE)
        turns = Turns(store, TEXT)
        self.assertIs(turns.store, store)
        self.assertEqual((turns.text, turns.states), (TEXT, ("one", "two", "end")))
        self.assertEqual(Turns(store, TEXT[:-1]).text, TEXT[:-1])

    def test_after(self):
        turns = Turns(Store(STORE), TEXT)
        found = {
            (state, label): turns.after(state, label) for state in turns.states for label in ("ab", "bc", "p")
            if turns.after(state, label) is not None}
        self.assertEqual(found, {("one", "ab"): "two", ("two", "p"): "end"})

    def test_stars_and_later_lines(self):
        store = Store(STORE)
        for lines, expected in (
                (["turn * * s"], ["s", "s", "s", "s", "s", "s"]),
                (["turn s * t", "turn * p s"], ["t", "t", "s", None, None, "s"]),
                (["turn * p s", "turn s * t"], ["t", "t", "t", None, None, "s"]),
                (["turn s ab s", "turn s ab t", "turn s ab s"], ["s", None, None, None, None, None]),
                (["turn t bc t", "turn * bc s", "turn t * t"], [None, "s", None, "t", "t", "t"]),
                ([], [None] * 6)):
            turns = Turns(store, "\n".join(["state s t", *lines]))
            found = [turns.after(state, label) for state in ("s", "t") for label in ("ab", "bc", "p")]
            self.assertEqual(found, expected, lines)

    def test_one_state_and_twelve(self):
        store = Store(STORE)
        self.assertEqual(Turns(store, "state a").states, ("a",))
        names = [f"s{k}" for k in range(12)]
        self.assertEqual(Turns(store, "state " + " ".join(names)).states, tuple(names))
        self.refused_at(store, "state " + " ".join(names + ["s12"]), 1, 14)
        self.refused_at(store, "state " + " ".join(names + ["s12", "s13"]), 1, 14)

    def test_words_of_the_text_may_be_names(self):
        store = Store("file 1\nnode a 1\nnode state 1\nmend turn a from state:1\nreader a")
        turns = Turns(store, "state state turn\nturn turn turn state\nturn state turn turn\n")
        self.assertEqual([turns.after(state, "turn") for state in turns.states], ["turn", "state"])

    def test_wrong_texts(self):
        store = Store(STORE)
        for value in NO_STRINGS:
            self.refused_at(store, value, 0, 0)
        for text, line, column in (
                ("", 1, 1), ("\n", 1, 1), (" ", 1, 1), ("state", 1, 2), ("state ", 1, 2), ("state  a", 1, 2),
                ("state a a", 1, 3), ("state a b ", 1, 4), ("state A", 1, 2), ("state *", 1, 2), ("turn a ab a", 1, 1),
                ("states a", 1, 1), ("state a\nstate b", 2, 1), ("state a\n", None, None), ("state a\n\n", 2, 1),
                ("state a\nturn", 2, 2), ("state a\nturn b ab a", 2, 2), ("state a\nturn a", 2, 3),
                ("state a\nturn a x a", 2, 3), ("state a\nturn a a a", 2, 3), ("state a\nturn a ab", 2, 4),
                ("state a\nturn a ab *", 2, 4), ("state a\nturn a ab b", 2, 4), ("state a\nturn a ab a a", 2, 5),
                ("state a\nturn a ab a ", 2, 5), ("state a\nturn ** ab a", 2, 2), ("state a\nturn a  ab a", 2, 3),
                ("state a\nturn a ab a\nturn a ab x\nx", 3, 4), ("state a b2345678901x\nturn a ab a", None, None),
                ("state a b23456789012x", 1, 3)):
            if line is None:
                Turns(store, text)
            else:
                self.refused_at(store, text, line, column)

    def test_changed_texts(self):
        chance = random.Random(53)
        store = Store(STORE)
        labels = [mend.label for mend in store.mends]
        words = ["state", "turn", "*", "", "s", "t", "ab", "p", "q", "S", "bc", "s1", "\n", "s\nturn"]
        wrong = 0
        for _ in range(1500):
            parts = random_machine(chance, store, chance.randint(1, 3)).split(" ")
            for _ in range(chance.randint(1, 2)):
                at = chance.randrange(len(parts) + 1)
                parts[at:at + chance.randint(0, 1)] = [chance.choice(words)] * chance.randint(0, 1)
            text = " ".join(parts)
            expected = wrong_at(labels, text)
            if expected is None:
                Turns(store, text)
            else:
                wrong += 1
                self.refused_at(store, text, *expected)
        self.assertGreater(wrong, 500)

    def test_errors_of_after(self):
        turns = Turns(Store(STORE), TEXT)
        for value in NO_STRINGS:
            self.refused(BadName, (value,), turns.after, value, None)
            self.refused(BadName, (value,), turns.after, "two", value)
        for value in ("", "*", "ab", "a", "One"):
            self.refused(NoName, (value,), turns.after, value, None)
        for value in ("", "*", "one", "a", "P"):
            self.refused(NoName, (value,), turns.after, "one", value)


class DemandTest(TurnsCase):
    def test_small(self):
        store = Store(STORE)
        turns = Turns(store, TEXT)
        # No mend is let at the end, and just one of them in each other state.
        self.assertEqual(demands_by(turns, "end"), demands(store, 0))
        self.assertEqual(demands_by(turns, "one", 0), demands(store, 0))
        self.assertEqual(demand_by(turns, "one", ("a",)), demand_by(turns, "one", ("a",), 2))

    def test_a_dropped_node_is_brought_in_again(self):
        # Between two mends of c the machine wants one of b, which drops out of the lot or must be brought in.
        store = Store(
            "file 3\nnode a 3\nnode b 3\nnode c 3\nmend mb b from a:1\nmend mc c from a:1 b:3\nreader b c")
        turns = Turns(store, "state s t\nturn s mc t\nturn t mb s")
        nexts = nexts_of(store, turns.text)
        tables = ways_by(store, nexts, turns.states, 16)
        for state in turns.states:
            for mends in range(17):
                expected = tuple((lot, demand(store, tables[mends][(state, lot)])) for lot in plain.lots(store))
                self.assertEqual(demands_by(turns, state, mends), expected)
        free = dict(demands(store))
        self.assertNotEqual(dict(demands_by(turns, "s")), free)

    def test_all_rows_tried(self):
        chance = random.Random(52)
        for _ in range(50):
            store = Store(plain.random_text(chance, chance.randint(2, 3), chance.randint(1, 3), chance.randint(1, 2)))
            turns = Turns(store, random_machine(chance, store, chance.randint(1, 3)))
            nexts = nexts_of(store, turns.text)
            for state in turns.states:
                for mends in (0, 1, 2, 3):
                    histories = let_histories(store, nexts, state, mends)
                    for lot in plain.lots(store):
                        totals = []
                        for history in histories:
                            rows = [(lot, 0)]
                            for label in history:
                                rows = [
                                    (behind, cost + more) for at, cost in rows
                                    for _, _, behind, more in plain.steps(store, at, (label,))]
                            totals += [
                                cost + plain.limits(store, reader, at) for at, cost in rows
                                for reader in range(len(store.readers)) if plain.limits(store, reader, at) is not None]
                        expected = demand(store, min(totals, default=None))
                        self.assertEqual(demand_by(turns, state, lot, mends), expected, (store.text, turns.text))

    def test_any_number_of_mends(self):
        chance = random.Random(54)
        for _ in range(60):
            store = Store(plain.random_text(chance, chance.randint(2, 4), chance.randint(1, 5), chance.randint(1, 2)))
            turns = Turns(store, random_machine(chance, store, chance.randint(1, 4)))
            nexts = nexts_of(store, turns.text)
            for key, state in product(nexts, [None]):
                self.assertEqual(turns.after(*key), nexts[key])
            enough = len(turns.states) * 2 ** len(store.nodes)
            tables = ways_by(store, nexts, turns.states, enough)
            for state in turns.states:
                for mends in (0, 1, 5, enough, None, 10 ** 12):
                    table = tables[enough if mends is None else min(mends, enough)]
                    expected = tuple((lot, demand(store, table[(state, lot)])) for lot in plain.lots(store))
                    self.assertEqual(demands_by(turns, state, mends), expected)
                    for lot, number in expected[::3]:
                        self.assertEqual(demand_by(turns, state, lot, mends), number)

    def test_a_machine_that_lets_all(self):
        chance = random.Random(55)
        for _ in range(40):
            store = Store(plain.random_text(chance, chance.randint(2, 5), chance.randint(0, 6), 2))
            turns = Turns(store, chance.choice(("state s\nturn * * s", "state s t u\nturn * * u\nturn u * t")))
            for mends in (0, 1, 3, None, 10 ** 12):
                for state in turns.states:
                    self.assertEqual(demands_by(turns, state, mends), demands(store, mends))
                one, other = bar(store, mends), bar_by(turns, mends)
                self.assertEqual(one and len(one.history), other and len(other.history))
            self.assertEqual(lasts_by(turns), lasts(store))

    def test_a_machine_that_lets_none(self):
        chance = random.Random(56)
        for _ in range(30):
            store = Store(plain.random_text(chance, chance.randint(2, 4), chance.randint(0, 6), 2))
            turns = Turns(store, "state s t")
            self.assertEqual(demands_by(turns, "t"), demands(store, 0))
            self.assertEqual(lasts_by(turns), -1 if bar(store, 0) else None)

    def test_errors(self):
        turns = Turns(Store(STORE), TEXT)
        for value in NO_STRINGS:
            self.refused(BadName, (value,), demand_by, turns, value, None, -1)
            self.refused(BadName, (value,), demands_by, turns, value, -1)
        for value in ("", "*", "ab", "three"):
            self.refused(NoName, (value,), demand_by, turns, value, None, -1)
            self.refused(NoName, (value,), demands_by, turns, value, -1)
        for lot in NO_LOTS:
            self.refused(BadLot, (lot,), demand_by, turns, "one", lot, -1)
        for mends in BAD_MENDS:
            self.refused(BadNumber, ("mends", mends), demand_by, turns, "one", ("a", "c"), mends)
            self.refused(BadNumber, ("mends", mends), demands_by, turns, "one", mends)
            self.refused(BadNumber, ("mends", mends), bar_by, turns, mends)

    def test_mends_by_name(self):
        turns = Turns(Store(STORE), TEXT)
        self.assertEqual(demand_by(turns, "one", (), mends=0), 0)
        self.assertEqual(demands_by(turns, "one", mends=0)[0], ((), 0))
        self.assertIsNone(bar_by(turns, mends=0))
        self.assertIsNone(standing_by(turns, "one", first_state(turns.store, LARGEST), mends=0))


class LastsTest(TurnsCase):
    def test_small(self):
        store = Store(STORE)
        # First b is mended with one letter of a, then c out of it.
        self.assertEqual(lasts(store), 1)
        self.assertEqual(lasts_by(Turns(store, "state s\nturn s ab s")), None)
        self.assertEqual(lasts_by(Turns(store, "state s\nturn s bc s")), None)
        self.assertEqual(lasts_by(Turns(store, "state s t\nturn s ab t\nturn t bc t")), 1)
        self.assertEqual(lasts_by(Turns(store, "state s t\nturn s bc t\nturn t ab t")), None)
        # A machine whose first state lets nothing.
        self.assertEqual(lasts_by(Turns(store, "state s t\nturn t * t")), None)

    def test_no_further_mend(self):
        # ab comes twice, and then nothing that would need what c was.
        store = Store(STORE)
        turns = Turns(store, "state s t u\nturn s ab t\nturn t ab u\nturn u bc u")
        self.assertEqual(lasts_by(turns), 2)
        turns = Turns(store, "state s t u\nturn s ab t\nturn t ab u")
        self.assertIsNone(lasts_by(turns))
        self.assertIsNone(bar_by(turns))

    def test_all_histories_tried(self):
        chance = random.Random(57)
        for _ in range(60):
            store = Store(plain.random_text(chance, chance.randint(2, 3), chance.randint(1, 3), chance.randint(1, 2)))
            turns = Turns(store, random_machine(chance, store, chance.randint(1, 3)))
            nexts = nexts_of(store, turns.text)
            histories = let_histories(store, nexts, turns.states[0], 4)
            short = [
                history for history in histories if any(
                    plain.least_cut_by_lots(store, history, reader) < store.file for reader in range(len(store.readers)))]
            many = min(map(len, short), default=None)
            for mends in range(5):
                self.check_bar(turns, nexts, mends, many)
            if many is not None:
                self.assertEqual(lasts_by(turns), many - 1)

    def test_any_number_of_mends(self):
        chance = random.Random(58)
        kinds = {}
        for _ in range(150):
            text = plain.random_text(chance, chance.randint(2, 4), chance.randint(1, 5), chance.randint(1, 2), 3, chance.randint(1, 3))
            store = Store(text)
            turns = Turns(store, random_machine(chance, store, chance.randint(1, 4)))
            nexts = nexts_of(store, turns.text)
            tables = ways_by(store, nexts, turns.states, len(turns.states) * 2 ** len(store.nodes))
            files = [min(
                plain.start(store, lot) + table[(turns.states[0], lot)]
                for lot in plain.lots(store) if table[(turns.states[0], lot)] is not None) for table in tables]
            short = [mends for mends, total in enumerate(files) if total < store.file]
            self.assertEqual(lasts_by(turns), short[0] - 1 if short else None)
            self.check_bar(turns, nexts, None, short[0] if short else None)
            self.check_bar(turns, nexts, 10 ** 12, short[0] if short else None)
            kinds[lasts_by(turns)] = kinds.get(lasts_by(turns), 0) + 1
        self.assertTrue({None, -1, 0, 1} <= set(kinds), kinds)

    def test_at_the_limits(self):
        chance = random.Random(59)
        for _ in range(3):
            store = Store(plain.strong_text(chance, 5, 12, 8, 40, 40, 0.1))
            turns = Turns(store, random_machine(chance, store, 6))
            nexts = nexts_of(store, turns.text)
            tables = ways_by(store, nexts, turns.states, 30)
            for state in turns.states:
                expected = tuple((lot, demand(store, tables[30][(state, lot)])) for lot in plain.lots(store))
                self.assertEqual(demands_by(turns, state, 30), expected)
            found = lasts_by(turns)
            self.check_bar(turns, nexts, None, None if found is None else found + 1)


class StandingTest(TurnsCase):
    def test_all_lots(self):
        chance = random.Random(60)
        kinds = {True: 0, False: 0}
        for _ in range(150):
            store = Store(plain.random_text(chance, chance.randint(2, 4), chance.randint(1, 4), 2, 3, chance.randint(1, 3)))
            turns = Turns(store, random_machine(chance, store, chance.randint(1, 3)))
            held = plain.random_state(chance, store, 101, 0.9)
            found = plain.ranks(held)
            for state in turns.states:
                for mends in (0, 1, None):
                    short = [
                        (lot, found[lot], needed) for lot, needed in demands_by(turns, state, mends) if found[lot] < needed]
                    told = standing_by(turns, state, held, mends)
                    kinds[bool(short)] += 1
                    if short:
                        self.assertIsInstance(told, Short)
                        self.assertEqual((told.lot, told.rank, told.demand), short[0])
                    else:
                        self.assertIsNone(told)
        self.assertGreater(min(kinds.values()), 100)

    def test_what_stands_goes_on_to_stand(self):
        chance = random.Random(61)
        checked = 0
        for _ in range(100):
            store = Store(plain.random_text(chance, chance.randint(2, 4), chance.randint(1, 4), 1, 4, chance.randint(1, 3)))
            turns = Turns(store, random_machine(chance, store, chance.randint(1, 3)))
            state, held = turns.states[0], first_state(store, LARGEST)
            for _ in range(4):
                lets = [mend.label for mend in store.mends if turns.after(state, mend.label) is not None]
                if not lets:
                    break
                label = chance.choice(lets)
                ahead = {mends: standing_by(turns, state, held, mends) for mends in (1, 2, 3, None)}
                state, held = turns.after(state, label), mended(held, label).state
                for mends, told in ahead.items():
                    if told is None:
                        checked += 1
                        self.assertIsNone(standing_by(turns, state, held, None if mends is None else mends - 1))
        self.assertGreater(checked, 100)

    def test_classes(self):
        self.assertEqual(vars(Short(("a",), 1, 2)), {"lot": ("a",), "rank": 1, "demand": 2})

    def test_errors(self):
        turns = Turns(Store(STORE), TEXT)
        held = State(turns.store, 7, [[], [], []])
        for value in NO_STRINGS:
            self.refused(BadName, (value,), standing_by, turns, value, held, -1)
        for value in ("", "*", "ab", "three"):
            self.refused(NoName, (value,), standing_by, turns, value, held, -1)
        for mends in BAD_MENDS:
            self.refused(BadNumber, ("mends", mends), standing_by, turns, "one", held, mends)


class SameTest(TurnsCase):
    def test_equal_calls_and_unchanged_arguments(self):
        turns = Turns(Store(STORE), TEXT)
        before = copy.deepcopy(vars(turns)), copy.copy(vars(turns.store))
        for mends in (0, 1, 2, None):
            one, other = bar_by(turns, mends), bar_by(turns, mends)
            self.assertEqual(one and vars(one), other and vars(other))
            self.assertEqual(demands_by(turns, "one", mends), demands_by(turns, "one", mends))
        lasts_by(turns)
        self.assertEqual((turns.states, turns.text, vars(turns.store)), (before[0]["states"], before[0]["text"], before[1]))


if __name__ == "__main__":
    unittest.main()
