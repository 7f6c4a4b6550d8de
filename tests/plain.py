"""What the tests hold the program against: the words of the document, tried out one by one.

Nothing here is taken from the package; lots are tuples of names, and
all rows of steps, histories and rows of lots are gone through.
"""

from functools import lru_cache
from itertools import combinations, product


def lots(store):
    """All lots, by the sums of 2 ** k over their nodes' numbers k."""
    return [
        tuple(name for k, name in enumerate(store.nodes) if number // 2 ** k % 2)
        for number in range(2 ** len(store.nodes))]


def in_order(store, names):
    """The lot of some nodes."""
    return tuple(name for name in store.nodes if name in names)


def mend_of(store, label):
    return {mend.label: mend for mend in store.mends}[label]


def rows_of(mend):
    """For each mended node the dict of its helpers' amounts."""
    if mend.kind == "one":
        return {mend.nodes[0]: dict(zip(mend.helpers, mend.amounts))}
    return {node: dict(zip(*row)) for node, *row in zip(mend.nodes, mend.helpers, mend.amounts)}


def price(store, label, lot, taken):
    """The price of a step, point 13."""
    mend = mend_of(store, label)
    room = dict(zip(store.nodes, store.rooms))
    outside = {
        node: sum(amount for helper, amount in row.items() if helper not in lot)
        for node, row in rows_of(mend).items()}
    if not taken:
        return 0
    if mend.kind == "one":
        return min(room[mend.nodes[0]], outside[mend.nodes[0]])
    sums = []
    for many in (0, 1, 2):
        for collected in combinations(mend.nodes, many):
            total = sum(outside[node] for node in collected)
            for node in taken:
                if node not in collected:
                    total += room[node]
                elif many == 1:
                    total += min(room[node], mend.swap)
            sums.append(total)
    return min(sums)


def steps(store, lot, labels=None):
    """All steps from a lot: label, nodes brought in, lot behind, price."""
    return [step for step in all_steps(store, lot) if labels is None or step[0] in labels]


@lru_cache(maxsize=10000)
def all_steps(store, lot):
    found = []
    for mend in store.mends:
        for many in range(len(mend.nodes) + 1):
            for names in combinations(mend.nodes, many):
                taken = in_order(store, names)
                behind = in_order(store, set(lot) - set(mend.nodes) | set(taken))
                found.append((mend.label, taken, behind, price(store, mend.label, lot, taken)))
    return found


def start(store, lot):
    """The start price of a lot."""
    return sum(
        room for name, room in zip(store.nodes, store.rooms) if name in lot and not store.is_new(name))


def limits(store, reader, lot):
    """The limits outside of a lot, None if a node without one is outside."""
    outside = [limit for name, limit in store.readers[reader] if name not in lot]
    return None if None in outside else sum(outside)


def rows(store, lot, mends):
    """All rows of at most so many steps from a lot: the lot at the end and the price."""
    found = [(lot, 0)]
    if mends > 0:
        for _, _, behind, cost in steps(store, lot):
            found += [(end, cost + more) for end, more in rows(store, behind, mends - 1)]
    return found


def way(store, lot, reader, mends):
    """The way within so many mends, by trying all rows."""
    prices = [
        cost + limits(store, reader, end)
        for end, cost in rows(store, lot, mends) if limits(store, reader, end) is not None]
    return min(prices, default=None)


def ways(store, reader, mends):
    """The ways from all lots within so many mends."""
    return ways_by_mends(store, reader, mends)[-1]


def ways_by_mends(store, reader, mends):
    """The ways from all lots within 0, 1, 2 .. up to so many mends, number of mends by number of mends."""
    tables = [{lot: limits(store, reader, lot) for lot in lots(store)}]
    for _ in range(mends):
        last = tables[-1]
        tables.append({
            lot: min(
                [limit for limit in [tables[0][lot]] if limit is not None]
                + [cost + last[behind] for _, _, behind, cost in steps(store, lot) if last[behind] is not None],
                default=None)
            for lot in last})
    return tables


def demands(store, mends):
    """The demands of all lots within so many mends."""
    tables = [ways(store, reader, mends) for reader in range(len(store.readers))]
    return {
        lot: max([0] + [store.file - table[lot] for table in tables if table[lot] is not None])
        for lot in lots(store)}


def enough(store):
    """A number of mends from which on nothing changes, point 16."""
    return 2 ** len(store.nodes) if any(mend.kind == "pair" for mend in store.mends) else len(store.nodes)


def histories(store, mends):
    """All histories of at most so many mends, shorter ones first."""
    labels = [mend.label for mend in store.mends]
    return [history for many in range(mends + 1) for history in product(labels, repeat=many)]


def rows_of_lots(store, history):
    """All rows of lots of a history, with the sum of their start price and the prices of their steps."""
    found = [((lot,), start(store, lot)) for lot in lots(store)]
    for label in history:
        found = [
            (row + (behind,), cost + more)
            for row, cost in found
            for _, _, behind, more in steps(store, row[-1], (label,))]
    return found


def least_cut(store, history, reader):
    """The least price of a row of lots of a history for a reader."""
    return min(
        cost + limits(store, reader, row[-1])
        for row, cost in rows_of_lots(store, history) if limits(store, reader, row[-1]) is not None)


def least_cut_by_lots(store, history, reader):
    """The same, lot by lot, for long histories."""
    found = {lot: start(store, lot) for lot in lots(store)}
    for label in history:
        further = {}
        for lot, cost in found.items():
            for _, _, behind, more in steps(store, lot, (label,)):
                further[behind] = min(cost + more, further.get(behind, cost + more))
        found = further
    return min(
        cost + limits(store, reader, lot)
        for lot, cost in found.items() if limits(store, reader, lot) is not None)


def greatest_file(store, mends):
    """The least price of a cut of a history of at most so many mends, by trying all."""
    return min(
        least_cut(store, history, reader)
        for history in histories(store, mends) for reader in range(len(store.readers)))


def random_text(chance, nodes, mends, readers, most=3, file=None, news=1, pairs=True):
    """A store text; numbers of mends and readers are kept to, all else is chance."""
    names = ["a", "b", "c", "d", "e", "f", "g"][:nodes]
    standing = chance.randrange(nodes)
    lines = [f"file {chance.randint(1, 2 * most) if file is None else file}"]
    for k, name in enumerate(names):
        is_new = k != standing and news > 0 and chance.random() < 0.25
        news -= is_new
        lines.append(f"{'new' if is_new else 'node'} {name} {chance.randint(0, most)}")
    for k in range(mends):
        lines.append(random_mend(chance, f"m{k}", names, most, pairs))
    for _ in range(readers):
        row = chance.sample(names, chance.randint(1, nodes))
        lines.append("reader " + " ".join(
            name if chance.random() < 0.6 else f"{name}:{chance.randint(0, most)}" for name in row))
    return "\n".join(lines) + "\n"


def random_mend(chance, label, names, most, pairs):
    """A line of a mend of one or two nodes."""
    def row(mended):
        helpers = [name for name in names if name not in mended]
        chosen = chance.sample(helpers, chance.randint(1, len(helpers)))
        return " ".join(f"{name}:{chance.randint(1, most)}" for name in chosen)

    if not pairs or len(names) < 3 or chance.random() < 0.5:
        node = chance.choice(names)
        return f"mend {label} {node} from {row([node])}"
    mended = chance.sample(names, 2)
    swap = chance.randint(0, most)
    return f"pair {label} {mended[0]} {mended[1]} swap {swap} from {row(mended)} and {row(mended)}"


def greatest_text(chance, readers=8, file=40, rooms=40, amounts=40):
    """A store text at the limits: seven nodes, twelve mends of both kinds, eight readers."""
    names = ["a", "b", "c", "d", "e", "f", "g"]
    lines = [f"file {file}"]
    for k, name in enumerate(names):
        lines.append(f"{'new' if k == 3 else 'node'} {name} {rooms}")
    for k in range(12):
        lines.append(random_mend(chance, f"m{k}", names, amounts, True))
    for _ in range(readers):
        row = chance.sample(names, chance.randint(1, 7))
        lines.append("reader " + " ".join(
            name if chance.random() < 0.6 else f"{name}:{chance.randint(0, amounts)}" for name in row))
    return "\n".join(lines) + "\n"
