"""Wishes: a lot for each book, or any."""

from pinshelf.deeds import LAST, outcome
from pinshelf.errors import BadWish
from pinshelf.shelves import check_shelf, is_place, lot_of


def check_wish(shelf, wish):
    """Refuse a wish that can't be one of this shelf, which is checked already."""
    prices, lots = shelf
    if not isinstance(wish, tuple):
        raise BadWish(number=0)
    for number, lot in enumerate(wish):
        if number == len(prices) or not (lot is None or is_place(lot, len(lots))):
            raise BadWish(number=number)
    if len(wish) < len(prices):
        raise BadWish(number=len(wish))


def cheapest(shelf, wish):
    """Tell (the least cost of a goal with all books in the lots wished, such a goal), or None."""
    check_shelf(shelf)
    check_wish(shelf, wish)
    prices, lots = shelf
    deeds = []
    for book, lot in enumerate(wish):
        if lot is None or lot == lot_of(lots, book):
            continue
        if prices[book] is None:
            return None
        # Such a book must be taken anyway; behind all others it's in nobody's way.
        deeds.append((book, lot, LAST))
    goal, cost = outcome(shelf, deeds)
    return cost, goal
