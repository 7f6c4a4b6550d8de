"""Which places a row of steps uses, where it goes the cheapest ways by some numbers."""

from anymend.moves import COLLECTED
from anymend.stores import links_of


def used_places(store, numbers, lot, steps, reader):
    """The pairs of a place and how often a row uses it, in the order of the numbers of a dict."""
    used = [("room", name) for name in lot if not store.is_new(name)]
    at = lot
    for label, taken in steps:
        mend = store.mend_of(label)
        used.extend(cheapest_ways(mend, numbers, at, taken))
        at = tuple(name for name in at if name not in mend.nodes) + taken
    for name, limit in store.readers[reader]:
        if limit is not None and name not in at:
            used.append(("limit", reader, name))
    return tuple((place, used.count(place)) for place in numbers if place in used)


def cheapest_ways(mend, numbers, lot, taken):
    """The places that a step from a lot uses."""
    if len(taken) == 0:
        return []
    if mend.kind == "one":
        return cheapest([[("room", mend.nodes[0])], links_outside(mend, 0, lot)], numbers)
    return cheapest([pair_places(mend, numbers, lot, taken, collected) for collected in COLLECTED], numbers)


def cheapest(choices, numbers):
    """The first one of some lists of places whose numbers have the least sum."""
    sums = [sum(numbers[place] for place in places) for places in choices]
    return choices[sums.index(min(sums))]


def links_outside(mend, at, lot):
    """The links of one of the mended nodes, by its number, from helpers outside of a lot."""
    node = mend.nodes[at]
    return [("link", mend.label, node, helper) for helper, _ in links_of(mend)[at] if helper not in lot]


def pair_places(mend, numbers, lot, taken, collected):
    """The places that a step by a pair uses if these of its nodes are collected."""
    used = []
    for own, other in ((0, 1), (1, 0)):
        if collected[own]:
            used.extend(links_outside(mend, own, lot))
        room = ("room", mend.nodes[own])
        if mend.nodes[own] not in taken:
            continue
        if not collected[own]:
            used.append(room)
        elif not collected[other]:
            used.extend(cheapest([[room], [("swap", mend.label)]], numbers))
    return used
