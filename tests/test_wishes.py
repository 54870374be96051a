"""Point 10: the cheapest goal with all books in the lots wished."""

import unittest
from itertools import product

from pinshelf.errors import BadShelf, BadWish
from pinshelf.least import least
from pinshelf.wishes import cheapest

PRICES = (3, 10, None, 7, 1, 99)
LOTS = ((0, 1, 2), (3, 4), (5,), ())
SHELF = (PRICES, LOTS)
ANY = (None,) * 6


def cheapest_lots(prices, lots):
    """Tell, for each (number of the lot in which it stands, for each book), the least cost."""
    costs = {lots: 0}
    waiting = [lots]
    for now in waiting:
        for book, lot, first in product(range(len(prices)), range(len(lots)), (True, False)):
            if prices[book] is None:
                continue
            rows = [[other for other in row if other != book] for row in now]
            rows[lot].insert(0 if first else len(rows[lot]), book)
            behind = tuple(map(tuple, rows))
            if costs[now] + prices[book] < costs.get(behind, 10 ** 6):
                costs[behind] = costs[now] + prices[book]
                waiting.append(behind)
    told = {}
    for row, cost in costs.items():
        key = tuple(next(k for k, lot in enumerate(row) if book in lot) for book in range(len(prices)))
        told[key] = min(cost, told.get(key, cost))
    return told


class Cheapest(unittest.TestCase):
    def check(self, shelf, wish, cost):
        with self.subTest(shelf=shelf, wish=wish):
            found = cheapest(shelf, wish)
            self.assertIs(type(found), tuple)
            told, goal = found
            self.assertIs(type(told), int)
            self.assertEqual(told, cost)
            self.assertIs(type(goal), tuple)
            self.assertEqual({type(lot) for lot in goal}, {tuple})
            for book, lot in enumerate(wish):
                if lot is not None:
                    self.assertIn(book, goal[lot])
            # least refuses what is no goal of the shelf.
            self.assertEqual(least(shelf, goal)[0], cost)

    def test_any_for_all(self):
        self.check(SHELF, ANY, 0)
        self.assertEqual(cheapest(SHELF, ANY), (0, LOTS))

    def test_all_wished_where_they_stand(self):
        self.check(SHELF, (0, 0, 0, 1, 1, 2), 0)
        self.check(SHELF, (0, None, 0, None, 1, None), 0)
        self.check(((5,), ((), (0,))), (1,), 0)

    def test_books_wished_elsewhere(self):
        self.check(SHELF, (3, None, None, None, None, None), 3)
        self.check(SHELF, (None, 2, None, None, None, None), 10)
        self.check(SHELF, (1, 1, 0, 1, 1, 1), 112)
        self.check(SHELF, (1, 0, 0, 0, 2, 2), 11)
        self.check(SHELF, (None, None, None, 0, 0, 0), 107)
        self.check(((5, 6), ((0,), (1,))), (1, 0), 11)

    def test_books_that_come_in_between_stay_where_they_can(self):
        self.check(((1, 9, 9, 9), ((0, 1), (2, 3))), (1, None, None, None), 1)
        self.check(((9, 1, 9, 9), ((0, 1, 2), (3,))), (None, 1, None, None), 1)

    def test_a_fixed_book_wished_where_it_stands(self):
        self.check(SHELF, (1, 1, 0, None, None, None), 13)
        self.check(((None, None), ((0,), (1,))), (0, 1), 0)
        self.check(((None, None), ((1, 0), ())), (None, 0), 0)

    def test_a_fixed_book_wished_elsewhere(self):
        for lot in (1, 2, 3):
            self.assertIsNone(cheapest(SHELF, (None, None, lot, None, None, None)))
            self.assertIsNone(cheapest(SHELF, (3, 3, lot, 3, 3, 3)))
        self.assertIsNone(cheapest(((None, None), ((0,), (1,))), (None, 0)))
        self.assertIsNone(cheapest(((None, 4, None), ((0,), (1, 2))), (0, 0, 0)))

    def test_one_lot(self):
        self.check(((5, None, 7), ((2, 1, 0),)), (0, 0, 0), 0)
        self.check(((5, None, 7), ((2, 1, 0),)), (None, None, 0), 0)

    def test_twelve_books_and_five_lots(self):
        books = tuple(range(12))
        shelf = ((99,) * 12, (books, (), (), (), ()))
        self.check(shelf, (4,) * 12, 1188)
        self.check(shelf, (0, 1, 2, 3, 4, None) * 2, 8 * 99)
        self.check(shelf, (None,) * 11 + (3,), 99)

    def test_all_wishes_of_small_shelves_against_a_search(self):
        for lots in (((2, 0, 1),), ((0, 1), (2,)), ((1, 0, 2), (), ())):
            for prices in product((1, 4, None), repeat=3):
                told = cheapest_lots(prices, lots)
                for wish in product((None, *range(len(lots))), repeat=3):
                    costs = [told[key] for key in told
                             if all(lot in (None, place) for lot, place in zip(wish, key))]
                    if costs:
                        self.check((prices, lots), wish, min(costs))
                    else:
                        self.assertIsNone(cheapest((prices, lots), wish))

    def test_asked_again_the_same_is_told(self):
        wish = (1, None, 0, 3, None, 2)
        first = cheapest(SHELF, wish)
        cheapest(SHELF, ANY)
        self.assertEqual(cheapest(SHELF, wish), first)
        self.assertEqual(wish, (1, None, 0, 3, None, 2))
        self.assertEqual(SHELF, ((3, 10, None, 7, 1, 99), ((0, 1, 2), (3, 4), (5,), ())))


class BadWishes(unittest.TestCase):
    def refused(self, wish, number, shelf=SHELF):
        with self.subTest(wish=wish):
            with self.assertRaises(BadWish) as caught:
                cheapest(shelf, wish)
            self.assertEqual(caught.exception.number, number)

    def test_no_tuple(self):
        for wish in (None, 0, 3, True, "000000", [0, 0, 0, 1, 1, 2], []):
            self.refused(wish, 0)

    def test_too_few(self):
        self.refused((0, 0, 0, 1, 1), 5)
        self.refused((None,) * 4, 4)
        self.refused((None,), 1)
        self.refused((), 0)

    def test_too_many(self):
        self.refused((0, 0, 0, 1, 1, 2, 3), 6)
        self.refused((None,) * 7, 6)
        self.refused((None,) * 6 + (4, "x"), 6)
        self.refused((None,) * 13, 12, ((1,) * 12, (tuple(range(12)),)))

    def test_a_lot_that_there_is_not(self):
        for lot in (4, 5, 12, 99, -1, -4, True, False, "0", "", (0,), [0], ()):
            for number in range(6):
                self.refused(ANY[:number] + (lot,) + ANY[number + 1:], number)
        self.refused((1,), 0, ((5,), ((0,),)))
        self.refused((5,), 0, ((5,), ((0,), (), (), (), ())))

    def test_the_first_of_several(self):
        self.refused((0, 4, 0, -1, 1, 2), 1)
        self.refused((0, None, "x", True), 2)
        self.refused((0, None, 0, True), 3)
        self.refused((0, None, 0, 1, 1, False, 0, 9), 5)
        self.refused((True, None), 0)

    def test_a_wish_that_cannot_be_is_refused_though_a_fixed_book_is_wished_elsewhere(self):
        self.refused((None, None, 1, None, None, 4), 5)
        self.refused((None, None, 1, None, None), 5)
        self.refused((None, None, 1, None, None, None, None), 6)

    def test_the_shelf_is_refused_ahead_of_the_wish(self):
        for wish in (None, (), (7,), (0, 0), (0, True)):
            with self.subTest(wish=wish):
                with self.assertRaises(BadShelf) as caught:
                    cheapest(((5, 6), ((1,), ())), wish)
                self.assertEqual((caught.exception.part, caught.exception.number), (2, 0))


if __name__ == "__main__":
    unittest.main()
