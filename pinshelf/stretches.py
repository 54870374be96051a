"""Stretches: which books of a goal can stay where they stand."""

from pinshelf.shelves import check_goal, check_shelf, lot_of


def fixed_books(prices, books):
    """Tell those of the books that are fixed."""
    return [book for book in books if prices[book] is None]


def price_of(prices, books):
    """Tell what the books cost together, but for fixed ones."""
    return sum([prices[book] for book in books if prices[book] is not None])


def stands(lot, part):
    # Each book stands just once, so this tells both that all are in the lot and their turn.
    return [book for book in lot if book in part] == list(part)


def holding(prices, lot, wanted):
    """Tell the stretches of a goal's lot that hold in a lot of the shelf, rising."""
    fixed = fixed_books(prices, wanted)
    many = len(wanted)
    found = []
    for start in range(many):
        for past in range(start + 1, many + 1):
            part = wanted[start:past]
            if stands(lot, part) and fixed_books(prices, part) == fixed:
                found.append((start, past))
    return found


def dearest(prices, lot, wanted):
    """Tell those of the stretches that hold which have the greatest price."""
    found = holding(prices, lot, wanted)
    worth = [price_of(prices, wanted[start:past]) for start, past in found]
    greatest = max(worth, default=0)
    return [span for span, price in zip(found, worth) if price == greatest]


def stays(shelf, goal):
    """Tell for each lot the stretches of the greatest price that hold there."""
    check_shelf(shelf)
    check_goal(shelf, goal)
    prices, lots = shelf
    return [dearest(prices, lot, wanted) for lot, wanted in zip(lots, goal)]


def barred(shelf, goal):
    """Tell what bars a goal, ("lot", a book) or ("turn", a lot), or None."""
    check_shelf(shelf)
    check_goal(shelf, goal)
    prices, lots = shelf
    for book, price in enumerate(prices):
        if price is None and lot_of(goal, book) != lot_of(lots, book):
            return "lot", book
    for number, wanted in enumerate(goal):
        if fixed_books(prices, wanted) and not holding(prices, lots[number], wanted):
            return "turn", number
    return None
