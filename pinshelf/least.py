"""Least ways: what it costs to come to a goal, by which deeds, and what could stay fixed."""

from math import comb

from pinshelf.deeds import FIRST, LAST, check_deeds, outcome
from pinshelf.errors import NoWay
from pinshelf.shelves import check_goal, check_shelf
from pinshelf.stretches import dearest, fixed_books

# A book that is taken several times stands where its last deed puts it, so the earlier ones are
# needless: a least way takes each book once, or leaves it where it is. What is left in a lot stands
# together in the goal, the first ones being put ahead of it (the nearest first), the last ones
# behind it.


def splits(prices, lot, wanted):
    """Tell all (from, past) in a goal's lot between which books are left by a least way.

    No split at all means that there's no way.
    """
    found = dearest(prices, lot, wanted)
    if found or fixed_books(prices, wanted):
        return found
    # Nothing is left: so many books may be put as first ones as one likes, the others as last ones.
    return [(at, at) for at in range(len(wanted) + 1)]


def splits_by_lot(shelf, goal):
    prices, lots = shelf
    return [splits(prices, lot, wanted) for lot, wanted in zip(lots, goal)]


def deeds_around(number, wanted, split):
    """Tell the deeds that put the books of a goal's lot which aren't left, in a turn that can be."""
    start, past = split
    ahead = [(book, number, FIRST) for book in reversed(wanted[:start])]
    return ahead + [(book, number, LAST) for book in wanted[past:]]


def least_way(shelf, goal):
    """Tell what least does, of a shelf and a goal that are checked already."""
    prices = shelf[0]
    way = []
    for number, found in enumerate(splits_by_lot(shelf, goal)):
        if not found:
            return None
        way.extend(deeds_around(number, goal[number], found[0]))
    return sum([prices[deed[0]] for deed in way]), way


def least(shelf, goal):
    """Tell (the least cost by which a goal can be come to, such a list of deeds), or None."""
    check_shelf(shelf)
    check_goal(shelf, goal)
    return least_way(shelf, goal)


def fewest(shelf, goal):
    """Tell how few deeds lead to a goal, whatever they cost, or None."""
    check_shelf(shelf)
    check_goal(shelf, goal)
    prices, lots = shelf
    # Where each deed costs 1, the least cost is how many deeds there are.
    ones = tuple([None if price is None else 1 for price in prices])
    found = least_way((ones, lots), goal)
    if found is None:
        return None
    return found[0]


def ways_by_deeds(wanted, found):
    """Tell for a goal's lot, by how many deeds it takes, in how many ways its books can be put."""
    counts = {}
    for start, past in found:
        many = start + len(wanted) - past
        # First ones come in one turn, and last ones, but the two may come in between each other.
        counts[many] = counts.get(many, 0) + comb(many, start)
    return counts


def woven(counts, others):
    """Tell the ways of two parts together, by deeds, those of one coming in between the other's."""
    both = {}
    for many, here in counts.items():
        for more, there in others.items():
            total = many + more
            both[total] = both.get(total, 0) + here * there * comb(total, more)
    return both


def ways(shelf, goal):
    """Tell how many lists of deeds of the least cost lead to a goal."""
    check_shelf(shelf)
    check_goal(shelf, goal)
    counts = {0: 1}
    for wanted, found in zip(goal, splits_by_lot(shelf, goal)):
        counts = woven(counts, ways_by_deeds(wanted, found))
    return sum(counts.values())


def judged(shelf, goal, deeds):
    """Tell (whether deeds lead to a goal, what they cost beyond the least way to where they lead)."""
    check_shelf(shelf)
    check_goal(shelf, goal)
    check_deeds(shelf, deeds)
    behind, cost = outcome(shelf, deeds)
    return behind == goal, cost - least_way(shelf, behind)[0]


def spare(shelf, goal):
    """Tell the books with prices of which each could be fixed, the least cost being the same."""
    check_shelf(shelf)
    check_goal(shelf, goal)
    found = splits_by_lot(shelf, goal)
    if [] in found:
        raise NoWay()
    prices = shelf[0]
    left = []
    for wanted, spans in zip(goal, found):
        for start, past in spans:
            left.extend(wanted[start:past])
    return sorted({book for book in left if prices[book] is not None})
