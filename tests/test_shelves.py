"""Points 2 and 3: what a shelf and a goal are, and how others are refused by all that take them."""

import unittest

from pinshelf.deeds import done
from pinshelf.desks import Desk
from pinshelf.errors import BadGoal, BadShelf
from pinshelf.least import fewest, judged, least, spare, ways
from pinshelf.notes import written
from pinshelf.stretches import barred, stays
from pinshelf.wishes import cheapest

SHELF = ((3, None, 7, 1), ((0, 1), (), (2, 3)))
GOOD_PRICES = (1, 2, 3)
GOOD_LOTS = ((0, 1, 2),)


class Shelves(unittest.TestCase):
    def refused(self, shelf, part, number):
        """Each function that is handed a shelf refuses it, ahead of what comes behind it."""
        calls = {
            "done": lambda: done(shelf, None),
            "stays": lambda: stays(shelf, None),
            "barred": lambda: barred(shelf, None),
            "least": lambda: least(shelf, None),
            "fewest": lambda: fewest(shelf, None),
            "ways": lambda: ways(shelf, None),
            "judged": lambda: judged(shelf, None, None),
            "spare": lambda: spare(shelf, None),
            "cheapest": lambda: cheapest(shelf, None),
            "Desk": lambda: Desk(shelf),
            "written": lambda: written(shelf),
        }
        for name, call in calls.items():
            with self.subTest(name, shelf=shelf):
                with self.assertRaises(BadShelf) as caught:
                    call()
                self.assertEqual((caught.exception.part, caught.exception.number), (part, number))

    def let_by(self, shelf):
        with self.subTest(shelf=shelf):
            lots = shelf[1]
            self.assertEqual(done(shelf, []), (lots, 0))
            self.assertIsNone(barred(shelf, lots))
            self.assertEqual(stays(shelf, lots), [[(0, len(lot))] if lot else [] for lot in lots])
            self.assertEqual(least(shelf, lots), (0, []))
            self.assertEqual(cheapest(shelf, (None,) * len(shelf[0])), (0, lots))
            self.assertEqual(Desk(shelf).shelf(), shelf)

    def test_no_tuple_of_two(self):
        for shelf in (None, 5, "shelf", True, [], [GOOD_PRICES, GOOD_LOTS], (), (GOOD_PRICES,),
                      (GOOD_PRICES, GOOD_LOTS, GOOD_LOTS)):
            self.refused(shelf, -1, 0)

    def test_prices_that_are_no_tuple_or_none(self):
        for prices in (None, 5, True, "123", [1, 2, 3], ()):
            self.refused((prices, GOOD_LOTS), 0, 0)

    def test_prices_that_cannot_be(self):
        for price in (0, 100, -1, -99, 1000, True, False, "3", "", (3,), [3], []):
            self.refused(((price, 2, 3), GOOD_LOTS), 0, 0)
            self.refused(((1, price, 3), GOOD_LOTS), 0, 1)
            self.refused(((None, 2, price), GOOD_LOTS), 0, 2)

    def test_a_thirteenth_price(self):
        self.refused(((1,) * 13, (tuple(range(13)),)), 0, 12)
        self.refused(((1,) * 13, (tuple(range(12)),)), 0, 12)
        self.refused(((1,) * 14, (tuple(range(14)),)), 0, 12)
        self.refused(((None,) * 13, (tuple(range(13)),)), 0, 12)
        self.refused(((1,) * 12 + (0,), (tuple(range(13)),)), 0, 12)

    def test_the_first_price_that_cannot_be(self):
        self.refused(((1, 0, 100), GOOD_LOTS), 0, 1)
        self.refused(((1,) * 11 + (100, 1), (tuple(range(13)),)), 0, 11)
        self.refused(((1, 2, True) + (1,) * 11, (tuple(range(14)),)), 0, 2)

    def test_lots_that_are_no_tuple_or_none(self):
        for lots in (None, 0, True, "012", [(0, 1, 2)], ()):
            self.refused((GOOD_PRICES, lots), 1, 0)

    def test_a_sixth_lot(self):
        self.refused((GOOD_PRICES, ((0,), (1,), (2,), (), (), ())), 1, 5)
        self.refused((GOOD_PRICES, ((0,), (1,), (), (), (), (2,))), 1, 5)
        self.refused((GOOD_PRICES, ((0, 1, 2),) + ((),) * 6), 1, 5)
        self.refused((GOOD_PRICES, ((0, 1, 2), (), (), (), (), None)), 1, 5)

    def test_a_lot_that_is_no_tuple(self):
        for lot in (None, 2, True, "2", [2], []):
            self.refused((GOOD_PRICES, (lot, (0, 1, 2))), 1, 0)
            self.refused((GOOD_PRICES, ((0, 1), lot)), 1, 1)
            self.refused((GOOD_PRICES, ((0, 1), (2,), (), (), lot)), 1, 4)

    def test_a_lot_with_what_is_no_book_of_the_shelf(self):
        for book in (3, 12, 99, -1, -3, True, False, None, "2", (2,), [2], {}):
            self.refused((GOOD_PRICES, ((book,), (0, 1, 2))), 1, 0)
            self.refused((GOOD_PRICES, ((0, 1), (2, book))), 1, 1)
        self.refused(((1, 2), ((False, 1),)), 1, 0)
        self.refused(((1, 2), ((0,), (), (True,))), 1, 2)

    def test_a_book_that_stands_twice(self):
        self.refused((GOOD_PRICES, ((0, 1, 2, 0),)), 1, 0)
        self.refused((GOOD_PRICES, ((0,), (1, 1, 2))), 1, 1)
        self.refused((GOOD_PRICES, ((0, 1), (2,), (0,))), 1, 2)
        self.refused((GOOD_PRICES, ((0, 1), (2, 1))), 1, 1)

    def test_the_first_lot_that_cannot_be(self):
        self.refused((GOOD_PRICES, ((0, 1), [2], (0,))), 1, 1)
        self.refused((GOOD_PRICES, ((0,), (), (0,), None, (), ())), 1, 2)
        self.refused((GOOD_PRICES, ((0, 9, 0), 7)), 1, 0)

    def test_a_book_that_stands_nowhere(self):
        self.refused((GOOD_PRICES, ((1, 2),)), 2, 0)
        self.refused((GOOD_PRICES, ((2,), (), (0,))), 2, 1)
        self.refused((GOOD_PRICES, ((1,), (0,))), 2, 2)
        self.refused((GOOD_PRICES, ((2,), ())), 2, 0)
        self.refused((GOOD_PRICES, ((),)), 2, 0)
        self.refused(((1, None), ((0,), ())), 2, 1)
        self.refused(((5,) * 12, (tuple(range(11)),)), 2, 11)

    def test_prices_are_refused_ahead_of_lots_and_lots_ahead_of_missing_books(self):
        self.refused(((1, 100), None), 0, 1)
        self.refused(((), ()), 0, 0)
        self.refused((GOOD_PRICES, ((2, 2),)), 1, 0)
        self.refused((GOOD_PRICES, ((1,), (), (7,))), 1, 2)
        self.refused((GOOD_PRICES, ((1,), (), (), (), (), ())), 1, 5)

    def test_good_shelves_are_let_by(self):
        self.let_by(((1,), ((0,),)))
        self.let_by(((99,), ((0,),)))
        self.let_by(((None,), ((0,),)))
        self.let_by(((None,), ((), (), (), (), (0,))))
        self.let_by(((1, 99) * 6, (tuple(range(12)),)))
        self.let_by(((1, None, 99) * 4, ((11, 0), (2, 1), (), (10, 9, 8, 7), (6, 3, 4, 5))))
        self.let_by(((4,) * 5, ((4,), (3,), (2,), (1,), (0,))))
        self.let_by(((None,) * 12, ((3, 2, 1, 0), (11, 10, 9, 8, 7, 6, 5, 4))))


def judged_alone(shelf, goal):
    return judged(shelf, goal, None)


def laid(shelf, goal):
    return Desk(shelf).lay(goal)


class Goals(unittest.TestCase):
    def refused(self, goal, number, shelf=SHELF):
        """Each function that is handed a goal refuses it, ahead of what comes behind it."""
        for call in (stays, barred, least, fewest, ways, spare, judged_alone, laid):
            with self.subTest(call.__name__, goal=goal):
                with self.assertRaises(BadGoal) as caught:
                    call(shelf, goal)
                self.assertEqual(caught.exception.number, number)

    def test_no_tuple(self):
        for goal in (None, 3, True, "goal", [(0, 1), (), (2, 3)], {}):
            self.refused(goal, 0)

    def test_a_lot_that_is_no_tuple_of_books(self):
        for lot in (None, 1, False, "23", [2, 3], (2, 3, 4), (2, 3, -1), (2, 3, None), (2, 3, "1"),
                    (True, 2, 3), (2, 3, [1]), (2, 3, 2)):
            self.refused((lot, (0, 1), ()), 0)
            self.refused(((), lot, (0, 1)), 1)
            self.refused(((0, 1), (), lot), 2)

    def test_a_book_that_stands_in_a_lot_ahead(self):
        self.refused(((0, 1), (0,), (2, 3)), 1)
        self.refused(((0, 1), (), (2, 3, 1)), 2)

    def test_the_first_lot_that_cannot_be(self):
        self.refused(((0, 1), (0,), None), 1)
        self.refused(((0, 1), None), 1)
        self.refused((None,), 0)
        self.refused(((0, 1), (), (2, 2), ()), 2)

    def test_one_lot_too_many(self):
        self.refused(((0, 1), (), (2, 3), ()), 3)
        self.refused(((0, 1), (), (2,), (3,)), 3)
        self.refused(((0, 1), (), (2, 3), None), 3)
        self.refused(((0, 1), (), (2, 3), (), (), (), ()), 3)
        self.refused(((0,), (), (), (), (), ()), 5, ((1,), ((0,), (), (), (), ())))
        self.refused(((0,), ()), 1, ((1,), ((0,),)))

    def test_one_lot_too_few(self):
        self.refused((), 0)
        self.refused(((0, 1, 2, 3),), 1)
        self.refused(((0, 1), (2, 3)), 2)
        self.refused(((0,), (2,)), 2)
        self.refused((), 0, ((1,), ((0,),)))

    def test_a_book_that_stands_nowhere(self):
        self.refused(((0, 1), (), (2,)), 3)
        self.refused(((), (), ()), 3)
        self.refused(((1, 2), (3,), ()), 3)
        self.refused(((),), 1, ((1,), ((0,),)))
        self.refused(((), (), (), (), ()), 5, ((1,), ((0,), (), (), (), ())))

    def test_good_goals_are_let_by(self):
        for goal in (SHELF[1], ((0, 1, 2, 3), (), ()), ((2, 1), (0,), (3,)), ((1,), (3, 2, 0), ())):
            with self.subTest(goal=goal):
                self.assertEqual(len(stays(SHELF, goal)), 3)
                self.assertIsNone(barred(SHELF, goal))

    def test_the_shelf_is_refused_ahead_of_the_goal(self):
        for call in (stays, barred):
            for goal in (None, (), ((0, 0),), ((0,),)):
                with self.subTest(call.__name__, goal=goal):
                    with self.assertRaises(BadShelf) as caught:
                        call(((1, 2), ((1,),)), goal)
                    self.assertEqual((caught.exception.part, caught.exception.number), (2, 0))


if __name__ == "__main__":
    unittest.main()
