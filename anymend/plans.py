"""The cheapest rooms, amounts and swaps, and the rows that show that nothing is cheaper."""

from math import lcm

from anymend.errors import BadNumber
from anymend.kinds import is_list
from anymend.numbers import row_by, total_of
from anymend.placed import numbers_of_places
from anymend.ratios import is_ratio, lowest
from anymend.tableaus import Tableau, unit
from anymend.trades import Never


class Plan:
    """A cheapest choice of numbers, what it costs, and the weighted rows that show it."""

    def __init__(self, cost, numbers, weights):
        self.cost = cost
        self.numbers = numbers
        self.weights = weights


def cheapest(store, prices):
    """A Plan of a cheapest choice that holds the file, a Never if none does."""
    told = checked(store, prices, "prices", "price")
    # With these each row with rooms, amounts or swaps has a total of at least the file.
    numbers = chosen(store, [store.file for _ in told], 1)
    row = row_by(store, numbers, None)
    if total_of(row, numbers) < store.file:
        return Never(row)
    shared = shared_bottom(told)
    tableau = Tableau(over(told, shared))
    uses, worth, row = entering(store, tableau)
    while uses is not None:
        tableau.enter(uses, worth, row)
        uses, worth, row = entering(store, tableau)
    cost = lowest((tableau.head[0], tableau.bottom * shared))
    weights = tuple((lowest((weight, tableau.bottom * shared)), row) for weight, row in tableau.weights())
    return Plan(cost, tuple(lowest((price, tableau.bottom)) for price in tableau.prices()), weights)


def entering(store, tableau):
    """What a tableau is to weight next: its uses, its worth, and its Row.

    The prices of the tableau are the numbers that are chosen so far. No
    Row enters where one of them is below 0, nothing at all (None) where
    they hold the file.
    """
    prices = tableau.prices()
    if min(prices) < 0:
        return unit(len(prices), prices.index(min(prices))), 0, None
    numbers = chosen(store, prices, tableau.bottom)
    row = row_by(store, numbers, None)
    if total_of(row, numbers) >= store.file * tableau.bottom:
        return None, None, None
    used = {place: times for place, times in row.uses}
    return [used.get(place, 0) for place in plan_places(store)], store.file - limits_used(store, row), row


def plan_places(store):
    """The places of a plan: all but the limits."""
    return [place for place in numbers_of_places(store) if place[0] != "limit"]


def limits_used(store, row):
    """The sum of the limits that a Row uses."""
    numbers = numbers_of_places(store)
    return sum([numbers[place] * times for place, times in row.uses if place[0] == "limit"])


def chosen(store, choice, bottom):
    """The numbers of a store over a bottom: those of a choice, and the limits as told."""
    told = numbers_of_places(store)
    numbers = dict(zip(plan_places(store), choice))
    return {place: numbers[place] if place in numbers else told[place] * bottom for place in told}


def checked(store, ratios, many_name, one_name):
    """Ratios from 0 on, one for each place of a plan, in lowest terms."""
    if not is_list(ratios):
        raise BadNumber(many_name, ratios)
    if len(ratios) != len(plan_places(store)):
        raise BadNumber(many_name, len(ratios))
    for ratio in ratios:
        if not is_ratio(ratio) or lowest(ratio)[0] < 0:
            raise BadNumber(one_name, ratio)
    return [lowest(ratio) for ratio in ratios]


def shared_bottom(ratios):
    """The least bottom over which all of some ratios can be written."""
    shared = 1
    for _, bottom in ratios:
        shared = lcm(shared, bottom)
    return shared


def over(ratios, shared):
    """The tops of ratios over a shared bottom."""
    return [top * (shared // bottom) for top, bottom in ratios]


def scaled_numbers(store, numbers):
    """The numbers of a store with a choice of ratios, as integers over a bottom, and this bottom."""
    told = checked(store, numbers, "numbers", "number")
    shared = shared_bottom(told)
    return chosen(store, over(told, shared), shared), shared


def least_with(store, numbers):
    """A Row whose total with these numbers is least."""
    scaled, _ = scaled_numbers(store, numbers)
    return row_by(store, scaled, None)


def total_with(store, numbers, row):
    """The total of a Row with these numbers."""
    scaled, shared = scaled_numbers(store, numbers)
    return lowest((total_of(row, scaled), shared))
