"""What the tests hold the program against: the words of the document, tried out one by one.

No answer here is taken from the package; lots are tuples of names, and
all rows of steps, histories and rows of lots are gone through.
"""

from functools import lru_cache
from itertools import combinations, product

from anymend.states import State


def lots(store):
    """All lots, by the sums of 2 ** k over their nodes' numbers k."""
    return [
        tuple(name for k, name in enumerate(store.nodes) if number // 2 ** k % 2)
        for number in range(2 ** len(store.nodes))]


def in_order(store, names):
    """The lot of some nodes."""
    return tuple(name for name in store.nodes if name in names)


def mend_of(store, label):
    return {mend.label: mend for mend in store.mends}[label]


def rows_of(mend):
    """For each mended node the dict of its helpers' amounts."""
    if mend.kind == "one":
        return {mend.nodes[0]: dict(zip(mend.helpers, mend.amounts))}
    return {node: dict(zip(*row)) for node, *row in zip(mend.nodes, mend.helpers, mend.amounts)}


def price(store, label, lot, taken):
    """The price of a step, point 13."""
    mend = mend_of(store, label)
    room = dict(zip(store.nodes, store.rooms))
    outside = {
        node: sum(amount for helper, amount in row.items() if helper not in lot)
        for node, row in rows_of(mend).items()}
    if not taken:
        return 0
    if mend.kind == "one":
        return min(room[mend.nodes[0]], outside[mend.nodes[0]])
    sums = []
    for many in (0, 1, 2):
        for collected in combinations(mend.nodes, many):
            total = sum(outside[node] for node in collected)
            for node in taken:
                if node not in collected:
                    total += room[node]
                elif many == 1:
                    total += min(room[node], mend.swap)
            sums.append(total)
    return min(sums)


def steps(store, lot, labels=None):
    """All steps from a lot: label, nodes brought in, lot behind, price."""
    return [step for step in all_steps(store, lot) if labels is None or step[0] in labels]


@lru_cache(maxsize=10000)
def all_steps(store, lot):
    found = []
    for mend in store.mends:
        for many in range(len(mend.nodes) + 1):
            for names in combinations(mend.nodes, many):
                taken = in_order(store, names)
                behind = in_order(store, set(lot) - set(mend.nodes) | set(taken))
                found.append((mend.label, taken, behind, price(store, mend.label, lot, taken)))
    return found


def start(store, lot):
    """The start price of a lot."""
    return sum(
        room for name, room in zip(store.nodes, store.rooms) if name in lot and not store.is_new(name))


def limits(store, reader, lot):
    """The limits outside of a lot, None if a node without one is outside."""
    outside = [limit for name, limit in store.readers[reader] if name not in lot]
    return None if None in outside else sum(outside)


def rows(store, lot, mends):
    """All rows of at most so many steps from a lot: the lot at the end and the price."""
    found = [(lot, 0)]
    if mends > 0:
        for _, _, behind, cost in steps(store, lot):
            found += [(end, cost + more) for end, more in rows(store, behind, mends - 1)]
    return found


def way(store, lot, reader, mends):
    """The way within so many mends, by trying all rows."""
    prices = [
        cost + limits(store, reader, end)
        for end, cost in rows(store, lot, mends) if limits(store, reader, end) is not None]
    return min(prices, default=None)


def ways(store, reader, mends):
    """The ways from all lots within so many mends."""
    return ways_by_mends(store, reader, mends)[-1]


def ways_by_mends(store, reader, mends):
    """The ways from all lots within 0, 1, 2 .. up to so many mends, number of mends by number of mends."""
    tables = [{lot: limits(store, reader, lot) for lot in lots(store)}]
    for _ in range(mends):
        last = tables[-1]
        tables.append({
            lot: min(
                [limit for limit in [tables[0][lot]] if limit is not None]
                + [cost + last[behind] for _, _, behind, cost in steps(store, lot) if last[behind] is not None],
                default=None)
            for lot in last})
    return tables


def demands(store, mends):
    """The demands of all lots within so many mends."""
    tables = [ways(store, reader, mends) for reader in range(len(store.readers))]
    return {
        lot: max([0] + [store.file - table[lot] for table in tables if table[lot] is not None])
        for lot in lots(store)}


def enough(store):
    """A number of mends from which on nothing changes, point 16."""
    return 2 ** len(store.nodes) if any(mend.kind == "pair" for mend in store.mends) else len(store.nodes)


def histories(store, mends):
    """All histories of at most so many mends, shorter ones first."""
    labels = [mend.label for mend in store.mends]
    return [history for many in range(mends + 1) for history in product(labels, repeat=many)]


def rows_of_lots(store, history):
    """All rows of lots of a history, with the sum of their start price and the prices of their steps."""
    found = [((lot,), start(store, lot)) for lot in lots(store)]
    for label in history:
        found = [
            (row + (behind,), cost + more)
            for row, cost in found
            for _, _, behind, more in steps(store, row[-1], (label,))]
    return found


def least_cut(store, history, reader):
    """The least price of a row of lots of a history for a reader."""
    return min(
        cost + limits(store, reader, row[-1])
        for row, cost in rows_of_lots(store, history) if limits(store, reader, row[-1]) is not None)


def least_cut_by_lots(store, history, reader):
    """The same, lot by lot, for long histories."""
    found = {lot: start(store, lot) for lot in lots(store)}
    for label in history:
        further = {}
        for lot, cost in found.items():
            for _, _, behind, more in steps(store, lot, (label,)):
                further[behind] = min(cost + more, further.get(behind, cost + more))
        found = further
    return min(
        cost + limits(store, reader, lot)
        for lot, cost in found.items() if limits(store, reader, lot) is not None)


def greatest_file(store, mends):
    """The least price of a cut of a history of at most so many mends, by trying all."""
    return min(
        least_cut(store, history, reader)
        for history in histories(store, mends) for reader in range(len(store.readers)))


def random_text(chance, nodes, mends, readers, most=3, file=None, news=1, pairs=True):
    """A store text; numbers of mends and readers are kept to, all else is chance."""
    names = ["a", "b", "c", "d", "e", "f", "g"][:nodes]
    standing = chance.randrange(nodes)
    lines = [f"file {chance.randint(1, 2 * most) if file is None else file}"]
    for k, name in enumerate(names):
        is_new = k != standing and news > 0 and chance.random() < 0.25
        news -= is_new
        lines.append(f"{'new' if is_new else 'node'} {name} {chance.randint(0, most)}")
    for k in range(mends):
        lines.append(random_mend(chance, f"m{k}", names, most, pairs))
    for _ in range(readers):
        row = chance.sample(names, chance.randint(1, nodes))
        lines.append("reader " + " ".join(
            name if chance.random() < 0.6 else f"{name}:{chance.randint(0, most)}" for name in row))
    return "\n".join(lines) + "\n"


def random_mend(chance, label, names, most, pairs):
    """A line of a mend of one or two nodes."""
    def row(mended):
        helpers = [name for name in names if name not in mended]
        chosen = chance.sample(helpers, chance.randint(1, len(helpers)))
        return " ".join(f"{name}:{chance.randint(1, most)}" for name in chosen)

    if not pairs or len(names) < 3 or chance.random() < 0.5:
        node = chance.choice(names)
        return f"mend {label} {node} from {row([node])}"
    mended = chance.sample(names, 2)
    swap = chance.randint(0, most)
    return f"pair {label} {mended[0]} {mended[1]} swap {swap} from {row(mended)} and {row(mended)}"


def greatest_text(chance, readers=8, file=40, rooms=40, amounts=40):
    """A store text at the limits: seven nodes, twelve mends of both kinds, eight readers."""
    names = ["a", "b", "c", "d", "e", "f", "g"]
    lines = [f"file {file}"]
    for k, name in enumerate(names):
        lines.append(f"{'new' if k == 3 else 'node'} {name} {rooms}")
    for k in range(12):
        lines.append(random_mend(chance, f"m{k}", names, amounts, True))
    for _ in range(readers):
        row = chance.sample(names, chance.randint(1, 7))
        lines.append("reader " + " ".join(
            name if chance.random() < 0.6 else f"{name}:{chance.randint(0, amounts)}" for name in row))
    return "\n".join(lines) + "\n"


def rank(rows, prime):
    """The rank of some rows."""
    rows, found = [list(row) for row in rows], 0
    for column in range(len(rows[0]) if rows else 0):
        at = next((k for k in range(found, len(rows)) if rows[k][column] % prime), None)
        if at is None:
            continue
        rows[found], rows[at] = rows[at], rows[found]
        inverse = pow(rows[found][column], -1, prime)
        for k in range(found + 1, len(rows)):
            factor = rows[k][column] * inverse % prime
            if factor:
                rows[k] = [(a - factor * b) % prime for a, b in zip(rows[k], rows[found])]
        found += 1
    return found


def of_lot(state, lot):
    """All rows of the nodes of a lot."""
    return [row for name, held in zip(state.store.nodes, state.rows) if name in lot for row in held]


def ranks(state):
    """The ranks of all lots."""
    return {lot: rank(of_lot(state, lot), state.prime) for lot in lots(state.store)}


def random_state(chance, store, prime, full=0.5):
    """A state with rows by chance, some nodes being as full as their rooms."""
    rows = []
    for room in store.rooms:
        many = room if chance.random() < full else chance.randint(0, room)
        rows.append([[chance.randrange(-prime, 2 * prime) for _ in range(store.file)] for _ in range(many)])
    return State(store, prime, rows)


def is_prime(number):
    return number > 1 and all(number % k for k in range(2, int(number ** 0.5) + 1))


def prime_above(number):
    """The least prime above a number."""
    number += 1
    while not is_prime(number):
        number += 1
    return number


def bound(store):
    """The bound of a store, point 32."""
    has_pair = any(mend.kind == "pair" for mend in store.mends)
    return 2 ** (len(store.nodes) + (3 if has_pair else -1)) * (store.file - 1)


def best_rank(store, found, label, lot):
    """The best rank of a lot, point 31, out of the ranks of all lots ahead of the mend."""
    mended = mend_of(store, label).nodes
    taken = in_order(store, set(lot) & set(mended))
    rest = set(lot) - set(mended)
    return min([store.file] + [
        found[other] + price(store, label, other, taken) for other in found if rest <= set(other)])


def places(store):
    """The dict of all places and their numbers, point 37."""
    found = {("room", name): room for name, room in zip(store.nodes, store.rooms)}
    for mend in store.mends:
        for node, row in rows_of(mend).items():
            found.update({("link", mend.label, node, helper): amount for helper, amount in row.items()})
        if mend.kind == "pair":
            found[("swap", mend.label)] = mend.swap
    for reader, row in enumerate(store.readers):
        found.update({("limit", reader, name): limit for name, limit in row if limit is not None})
    return found


@lru_cache(maxsize=100000)
def step_ways(store, label, lot, taken):
    """The places that a step may use, way by way, point 38."""
    mend = mend_of(store, label)
    links = {
        node: [("link", label, node, helper) for helper in row if helper not in lot]
        for node, row in rows_of(mend).items()}
    if not taken:
        return [[]]
    if mend.kind == "one":
        return [[("room", taken[0])], links[taken[0]]]
    found = []
    for many in (0, 1, 2):
        for collected in combinations(mend.nodes, many):
            choices = []
            for node in taken:
                ways = [[("room", node)]]
                if node in collected:
                    ways.append([] if many == 2 else [("swap", label)])
                choices.append(ways)
            for chosen in product(*choices):
                found.append([place for node in collected for place in links[node]] + sum(chosen, []))
    return found


def added(uses, used):
    """Uses, a tuple with a number for each place, with some places (by their numbers) more."""
    found = list(uses)
    for at in used:
        found[at] += 1
    return tuple(found)


def undominated(uses):
    """Those of some uses of which no other one is nowhere greater."""
    uses = sorted(set(uses), key=lambda one: (sum(one), one))
    found = []
    for one in uses:
        if not any(all(a <= b for a, b in zip(other, one)) for other in found):
            found.append(one)
    return found


def least_uses(store, mends):
    """The uses of all rows of at most so many steps (None: any number), but those that use more than others."""
    order = {place: at for at, place in enumerate(places(store))}
    table = {}
    for lot in lots(store):
        started = [order[("room", name)] for name in lot if not is_new(store, name)]
        table[lot] = [added((0,) * len(order), started)]
    done = 0
    while mends is None or done < mends:
        further = {lot: list(table[lot]) for lot in table}
        for lot in table:
            for label, taken, behind, _ in all_steps(store, lot):
                for way in step_ways(store, label, lot, taken):
                    further[behind] += [added(uses, [order[place] for place in way]) for uses in table[lot]]
        further = {lot: undominated(further[lot]) for lot in further}
        if further == table:
            break
        table, done = further, done + 1
    found = []
    for lot in table:
        for reader, row in enumerate(store.readers):
            if limits(store, reader, lot) is not None:
                outside = [order[("limit", reader, name)] for name, limit in row if name not in lot]
                found += [added(uses, outside) for uses in table[lot]]
    return undominated(found)


def is_new(store, name):
    return f"\nnew {name} " in store.text


def total(numbers, uses):
    """The total of uses, by a dict of numbers of all places."""
    return sum(number * times for number, times in zip(numbers.values(), uses))


def row_fault(store, row, mends=None):
    """What is wrong with a Row of at most so many steps, None if nothing is."""
    if not (isinstance(row.lot, tuple) and row.lot in lots(store)):
        return "lot"
    if not isinstance(row.steps, tuple) or (mends is not None and len(row.steps) > mends):
        return "steps"
    order = list(places(store))
    found = {added((0,) * len(order), [order.index(("room", name)) for name in row.lot if not is_new(store, name)])}
    at = row.lot
    for step in row.steps:
        ways = [other for other in all_steps(store, at) if other[:2] == step]
        if len(ways) != 1 or not isinstance(step, tuple) or not isinstance(step[1], tuple):
            return "step"
        label, taken, behind, _ = ways[0]
        found = {
            added(uses, [order.index(place) for place in way])
            for uses in found for way in step_ways(store, label, at, taken)}
        at = behind
    if type(row.reader) is not int or row.reader not in range(len(store.readers)):
        return "reader"
    if limits(store, row.reader, at) is None:
        return "end"
    outside = [order.index(("limit", row.reader, name)) for name, _ in store.readers[row.reader] if name not in at]
    told = [place for place, _ in row.uses]
    if not isinstance(row.uses, tuple) or told != [place for place in order if place in told]:
        return "order"
    if any(not isinstance(pair, tuple) or type(pair[1]) is not int or pair[1] <= 0 for pair in row.uses):
        return "times"
    times = dict(row.uses)
    if tuple(times.get(place, 0) for place in order) not in {added(uses, outside) for uses in found}:
        return "uses"
    return None


def strong_text(chance, nodes, mends, readers, most, file, limits=0.0, pairs=0.3):
    """A store text with many helpers and great readers, which holds more than one of chance alone."""
    names = ["a", "b", "c", "d", "e", "f", "g"][:nodes]
    lines = [f"file {file}"] + [f"node {name} {chance.randint(1, most)}" for name in names]

    def row(mended):
        helpers = [name for name in names if name not in mended]
        return " ".join(f"{name}:{chance.randint(1, most)}" for name in helpers if name != helpers[-1] or chance.random() < 0.8
                        or len(helpers) == 1)

    for k in range(mends):
        if nodes > 2 and chance.random() < pairs:
            mended = chance.sample(names, 2)
            lines.append(f"pair m{k} {mended[0]} {mended[1]} swap {chance.randint(0, most)} from {row(mended)} and {row(mended)}")
        else:
            node = names[k % nodes]
            lines.append(f"mend m{k} {node} from {row([node])}")
    for _ in range(readers):
        chosen = chance.sample(names, chance.randint(min(2, nodes), nodes))
        lines.append("reader " + " ".join(
            f"{name}:{chance.randint(file // 2, file)}" if chance.random() < limits else name for name in chosen))
    return "\n".join(lines) + "\n"
