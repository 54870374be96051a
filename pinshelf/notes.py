"""Notes: shelves written as texts, and read."""

from pinshelf.errors import BadText
from pinshelf.shelves import check_shelf

PRICES = "prices"
LOT = "lot"
FIXED = "-"
FIGURES = "0123456789"


def row_of(head, words):
    return " ".join([head, *words])


def written(shelf):
    """Tell the text of a shelf."""
    check_shelf(shelf)
    prices, lots = shelf
    rows = [row_of(PRICES, [FIXED if price is None else str(price) for price in prices])]
    for lot in lots:
        rows.append(row_of(LOT, [str(book) for book in lot]))
    return "\n".join(rows)


def is_figures(word):
    """Tell whether a word is a number of one or two figures, none needless."""
    # Python's own isdigit and int let by more than these ten figures.
    if len(word) not in (1, 2) or not all([sign in FIGURES for sign in word]):
        return False
    return len(word) == 1 or word[0] != "0"


def is_price_row(words):
    return words[0] == PRICES and all([word == FIXED or is_figures(word) for word in words[1:]])


def is_lot_row(words):
    return words[0] == LOT and all([is_figures(word) for word in words[1:]])


def check_rows(rows):
    """Refuse rows, lists of words, that aren't those of a shelf by their words."""
    for number, words in enumerate(rows):
        good = is_price_row(words) if number == 0 else is_lot_row(words)
        if not good:
            raise BadText(row=number)


def read(text):
    """Tell the shelf of a text."""
    if not isinstance(text, str):
        raise BadText(row=0)
    # Split at each single blank, a blank too many leaves an empty word, which is none.
    rows = [row.split(" ") for row in text.split("\n")]
    check_rows(rows)
    prices = tuple([None if word == FIXED else int(word) for word in rows[0][1:]])
    lots = tuple([tuple([int(word) for word in words[1:]]) for words in rows[1:]])
    shelf = (prices, lots)
    check_shelf(shelf)
    return shelf
