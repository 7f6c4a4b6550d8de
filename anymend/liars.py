"""Readers that stand missing nodes and liars, and what they read."""

from itertools import combinations

from anymend.demands import bar_within
from anymend.errors import BadNumber
from anymend.fields import reduced
from anymend.kinds import is_list, is_whole
from anymend.lots import check_mends, check_reader
from anymend.placed import reread


class Fooled:
    """Nodes without which a reader does not last, and a Bar that shows it."""

    def __init__(self, away, bar):
        self.away = away
        self.bar = bar


class Found:
    """The one file that agrees with enough nodes, and the nodes that told something else."""

    def __init__(self, file, liars):
        self.file = file
        self.liars = liars


class Unclear:
    """Two files that agree with enough nodes."""

    def __init__(self, one, other):
        self.one = one
        self.other = other


def check_many(what, number):
    """BadNumber if a value is no integer from 0 on."""
    if not is_whole(number) or number < 0:
        raise BadNumber(what, number)


def stands(store, reader, missing, liars, mends=None):
    """None if a reader stands so many missing nodes and liars within so many mends, otherwise a Fooled."""
    check_reader(store, reader)
    check_many("missing", missing)
    check_many("liars", liars)
    check_mends(mends)
    row = store.readers[reader]
    # Two files that differ by what t liars tell fool a reader as if 2 * t nodes were missing.
    for away in lots_among(store, row, min(missing + 2 * liars, len(row))):
        rest = tuple((name, limit) for name, limit in row if name not in away)
        found = bar_within(reread(store, (rest,)), mends)
        if found is not None:
            return Fooled(away, found)
    return None


def lots_among(store, row, many):
    """All lots of so many nodes of a reader."""
    names = [name for name, _ in row]
    return list(combinations([name for name in store.nodes if name in names], many))


def found_among(state, reader, told, liars):
    """The file that agrees with all but so many of the nodes that tell something."""
    check_reader(state.store, reader)
    names = [name for name, _ in state.store.readers[reader]]
    held = [state.rows[state.store.nodes.index(name)] for name in names]
    check_told(state, held, told)
    check_many("liars", liars)
    answers = [(name, joined(rows, said)) for name, rows, said in zip(names, held, told) if said is not None]
    files = files_among(state, [equations for _, equations in answers], max(0, len(answers) - liars))
    if len(files) == 0:
        return None
    if len(files) > 1:
        return Unclear(files[0], files[1])
    wrong = tuple(name for name, equations in answers if not agrees(files[0], equations, state.prime))
    return Found(files[0], wrong)


def check_told(state, held, told):
    """BadNumber if a value does not tell for each node as many numbers as it has rows, or None."""
    if not is_list(told) or len(told) != len(held):
        raise BadNumber("told", told)
    for rows, said in zip(held, told):
        if said is not None and not are_values(said, len(rows), state.prime):
            raise BadNumber("told", told)


def are_values(said, many, prime):
    """Whether a value is a tuple of so many numbers modulo a prime."""
    if not isinstance(said, tuple) or len(said) != many:
        return False
    return all(is_whole(number) and 0 <= number < prime for number in said)


def joined(rows, numbers):
    """Equations for a file: each row, and behind it the number that is its sum."""
    return [[*row, number] for row, number in zip(rows, numbers)]


def agrees(file, equations, prime):
    """Whether equations are right for a file."""
    for equation in equations:
        total = sum([number * letter for number, letter in zip(equation, file)])
        if (total - equation[-1]) % prime != 0:
            return False
    return True


def files_among(state, answers, many):
    """Files that are right for so many of some lists of equations: all of them, or two."""
    found = {}
    for chosen in combinations(answers, many):
        equations = [equation for rows in chosen for equation in rows]
        for file in files_of(equations, state.store.file, state.prime):
            found[file] = True
        if len(found) > 1:
            break
    return list(found)


def files_of(equations, width, prime):
    """The files for which equations are right: none, the only one, or two of several."""
    rows = reduced(equations, prime)
    columns = [row.index(1) for row in rows]
    if width in columns:
        return []
    one = [0] * width
    for column, row in zip(columns, rows):
        one[column] = row[width]
    free = [column for column in range(width) if column not in columns]
    if len(free) == 0:
        return [tuple(one)]
    # One letter more at a free place, and what makes up for it in all rows.
    other = list(one)
    other[free[0]] = 1
    for column, row in zip(columns, rows):
        other[column] = (row[width] - row[free[0]]) % prime
    return [tuple(one), tuple(other)]
