"""Rooms against amounts: which multiples of them hold the file."""

from math import gcd

from anymend.errors import BadNumber
from anymend.numbers import row_by
from anymend.placed import numbers_of_places
from anymend.ratios import is_ratio, lowest

# A line with the form (x, y) and the sum c has the points with x * a + y * b = c.
# Here are the axes a = 0 and b = 0.
AXES = ((1, 0, 0), (0, 1, 0))

# Where the pieces of the border go that end at one corner; two corners tell enough.
UPWARD = (0, 1)
RIGHTWARD = (1, 0)
NOWHERE = (0, 0)


class Trade:
    """The corners of the region of all pairs that hold the file, and rows that bound it."""

    def __init__(self, corners, sides):
        self.corners = corners
        self.sides = sides


class Never:
    """A row that shows that nothing holds the file."""

    def __init__(self, row):
        self.row = row


def form_of(store, row):
    """The sums of the rooms, of the amounts and swaps, and of the limits that a Row uses."""
    sums = {"room": 0, "link": 0, "swap": 0, "limit": 0}
    numbers = numbers_of_places(store)
    for place, times in row.uses:
        sums[place[0]] += numbers[place] * times
    return (sums["room"], sums["link"] + sums["swap"], sums["limit"])


def least_at(store, a, b):
    """A Row whose total is least with rooms times a, amounts and swaps times b."""
    for what, value in (("a", a), ("b", b)):
        if not is_ratio(value) or lowest(value)[0] < 0:
            raise BadNumber(what, value)
    a_top, a_bottom = lowest(a)
    b_top, b_bottom = lowest(b)
    return row_at(store, (a_top * b_bottom, b_top * a_bottom, a_bottom * b_bottom))


def row_at(store, point):
    """A Row whose total is least at a point, which is told by the tops of a and b and their bottom."""
    a_top, b_top, bottom = point
    # All numbers are multiplied by the bottom, so that they are integers.
    factors = {"room": a_top, "link": b_top, "swap": b_top, "limit": bottom}
    numbers = numbers_of_places(store)
    return row_by(store, {place: numbers[place] * factors[place[0]] for place in numbers}, None)


def trade(store):
    """The Trade of a store, a Never if no pair holds the file."""
    # Here each row with rooms, amounts or swaps has a total of at least the file.
    row = row_at(store, (store.file, store.file, 1))
    if form_of(store, row)[:2] == (0, 0) and form_of(store, row)[2] < store.file:
        return Never(row)
    rows = bounding_rows(store)
    lines = list(rows)
    corners = corners_of([*AXES, *lines])
    sides = [side_of(lines, corners[:1], UPWARD)]
    sides.extend([side_of(lines, corners[k:k + 2], NOWHERE) for k in range(len(corners) - 1)])
    sides.append(None if corners[-1][1] == 0 else side_of(lines, corners[-1:], RIGHTWARD))
    return Trade(
        tuple((lowest((a_top, bottom)), lowest((b_top, bottom))) for a_top, b_top, bottom in corners),
        tuple(None if line is None else rows[line] for line in sides))


def bounding_rows(store):
    """The dict of lines that bound the region, and the Rows that have them.

    Each corner of what the lines so far leave is asked for its least row,
    until all of them hold the file. Then so does all that is left.
    """
    rows = {}
    asked = {}
    points = corners_of(AXES)
    while len(points) > 0:
        for point in points:
            asked[point] = True
            row = row_at(store, point)
            x, y, z = form_of(store, row)
            if below((x, y, store.file - z), point):
                rows[(x, y, store.file - z)] = row
        points = [point for point in corners_of([*AXES, *rows]) if point not in asked]
    return rows


def below(line, point):
    """Whether a point lies below a line."""
    x, y, c = line
    a_top, b_top, bottom = point
    return x * a_top + y * b_top < c * bottom


def corners_of(lines):
    """The corners of the region above all lines, in ascending order of a."""
    found = {}
    for k, line in enumerate(lines):
        for other in lines[:k]:
            point = crossing(line, other)
            if point is not None and not any(below(each, point) for each in lines):
                found[point] = True
    shared = 1
    for _, _, bottom in found:
        shared *= bottom // gcd(shared, bottom)
    ranked = sorted([(a_top * (shared // bottom), (a_top, b_top, bottom)) for a_top, b_top, bottom in found])
    return [point for _, point in ranked]


def crossing(line, other):
    """The point that two lines have in common, None if they have none or all."""
    x, y, c = line
    u, v, d = other
    bottom = x * v - u * y
    if bottom == 0:
        return None
    sign = 1 if bottom > 0 else -1
    tops = (sign * (c * v - d * y), sign * (x * d - u * c))
    shared = gcd(gcd(tops[0], tops[1]), bottom)
    return (tops[0] // shared, tops[1] // shared, sign * bottom // shared)


def side_of(lines, points, direction):
    """The first line that goes through points, and from there in a direction."""
    across, up = direction
    return [line for line in lines if on_line(line, points) and line[0] * across + line[1] * up == 0][0]


def on_line(line, points):
    """Whether points lie on a line."""
    x, y, c = line
    return all(x * a_top + y * b_top == c * bottom for a_top, b_top, bottom in points)
