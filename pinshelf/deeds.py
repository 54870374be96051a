"""Deeds: books that are taken, and put at an end of a lot."""

from pinshelf.errors import BadWay
from pinshelf.shelves import check_shelf, is_place

FIRST = "first"
LAST = "last"


def is_deed(shelf, deed):
    if not isinstance(deed, tuple) or len(deed) != 3:
        return False
    prices, lots = shelf
    book, lot, end = deed
    return is_place(book, len(prices)) and is_place(lot, len(lots)) and end in (FIRST, LAST)


def why_not(shelf, deed):
    """Tell why a deed can't be done on a shelf, or None if it can."""
    if not is_deed(shelf, deed):
        return "form"
    prices = shelf[0]
    if prices[deed[0]] is None:
        return "fixed"
    return None


def check_list(deeds):
    if not isinstance(deeds, list):
        raise BadWay(number=0, why="form")


def check_deeds(shelf, deeds):
    """Refuse deeds that can't be done on this shelf, which is checked already."""
    check_list(deeds)
    # Where the books stand by then doesn't matter to whether a deed can be.
    for number, deed in enumerate(deeds):
        why = why_not(shelf, deed)
        if why is not None:
            raise BadWay(number=number, why=why)


def lots_behind(lots, deed):
    """Tell the lots as they are behind one deed."""
    moved, target, end = deed
    rows = [[book for book in lot if book != moved] for lot in lots]
    if end == FIRST:
        rows[target].insert(0, moved)
    else:
        rows[target].append(moved)
    return tuple([tuple(row) for row in rows])


def outcome(shelf, deeds):
    """Tell what done does, of a shelf and deeds that are checked already."""
    prices, lots = shelf
    cost = 0
    for deed in deeds:
        lots = lots_behind(lots, deed)
        cost += prices[deed[0]]
    return lots, cost


def done(shelf, deeds):
    """Tell (the lots behind all of the deeds, done in turn, what they cost)."""
    check_shelf(shelf)
    check_deeds(shelf, deeds)
    return outcome(shelf, deeds)
