"""What a shelf and a goal are, and the refusal of what is none."""

from pinshelf.errors import BadGoal, BadShelf

MOST_BOOKS = 12
MOST_LOTS = 5
MOST_PRICE = 99


def is_number(value):
    # Python counts True and False as integers; here they are no numbers.
    return isinstance(value, int) and not isinstance(value, bool)


def is_place(value, many):
    """Tell whether this is a number of one of so many, counted from 0."""
    return is_number(value) and 0 <= value < many


def is_price(value):
    return value is None or (is_number(value) and 1 <= value <= MOST_PRICE)


def lot_of(lots, book):
    """Tell the number of the lot in which a book stands, or None."""
    for number, lot in enumerate(lots):
        if book in lot:
            return number
    return None


def wrong_price(prices):
    """Tell the number of the first price that can't be, or None."""
    if not isinstance(prices, tuple) or len(prices) == 0:
        return 0
    for number, price in enumerate(prices):
        if number == MOST_BOOKS or not is_price(price):
            return number
    return None


def wrong_lot(lots, books, fewest, most):
    """Tell the number of the first lot that can't be, is too much or lacks, or None."""
    if not isinstance(lots, tuple):
        return 0
    seen = set()
    for number, lot in enumerate(lots):
        if number == most or not isinstance(lot, tuple):
            return number
        for book in lot:
            if not is_place(book, books) or book in seen:
                return number
            seen.add(book)
    if len(lots) < fewest:
        return len(lots)
    return None


def missing_book(lots, books):
    """Tell the first book that stands in none of the lots, or None."""
    for book in range(books):
        if lot_of(lots, book) is None:
            return book
    return None


def check_shelf(shelf):
    if not isinstance(shelf, tuple) or len(shelf) != 2:
        raise BadShelf(part=-1, number=0)
    prices, lots = shelf
    number = wrong_price(prices)
    if number is not None:
        raise BadShelf(part=0, number=number)
    number = wrong_lot(lots, len(prices), 1, MOST_LOTS)
    if number is not None:
        raise BadShelf(part=1, number=number)
    number = missing_book(lots, len(prices))
    if number is not None:
        raise BadShelf(part=2, number=number)


def check_goal(shelf, goal):
    """Refuse a goal that can't be one of this shelf, which is checked already."""
    prices, lots = shelf
    many = len(lots)
    number = wrong_lot(goal, len(prices), many, many)
    if number is not None:
        raise BadGoal(number=number)
    if missing_book(goal, len(prices)) is not None:
        raise BadGoal(number=many)
