"""Point 4: deeds done on a shelf, and deeds that can't be."""

import unittest

from pinshelf.deeds import done
from pinshelf.errors import BadShelf, BadWay

# Books 0 to 5; book 2 is fixed, book 5 stands alone.
PRICES = (3, 10, None, 7, 1, 99)
LOTS = ((0, 1, 2), (3, 4), (5,), ())
SHELF = (PRICES, LOTS)


class Done(unittest.TestCase):
    def told(self, deeds, lots, cost):
        found = done(SHELF, deeds)
        self.assertEqual(found, (lots, cost))
        self.assertIsInstance(found, tuple)
        self.assertIsInstance(found[0], tuple)
        for lot in found[0]:
            self.assertIsInstance(lot, tuple)

    def test_none(self):
        self.told([], LOTS, 0)

    def test_to_either_end_of_another_lot(self):
        self.told([(1, 1, "first")], ((0, 2), (1, 3, 4), (5,), ()), 10)
        self.told([(1, 1, "last")], ((0, 2), (3, 4, 1), (5,), ()), 10)
        self.told([(4, 0, "first")], ((4, 0, 1, 2), (3,), (5,), ()), 1)
        self.told([(4, 0, "last")], ((0, 1, 2, 4), (3,), (5,), ()), 1)

    def test_into_an_empty_lot(self):
        self.told([(0, 3, "first")], ((1, 2), (3, 4), (5,), (0,)), 3)
        self.told([(0, 3, "last")], ((1, 2), (3, 4), (5,), (0,)), 3)

    def test_to_either_end_of_its_own_lot(self):
        self.told([(1, 0, "first")], ((1, 0, 2), (3, 4), (5,), ()), 10)
        self.told([(1, 0, "last")], ((0, 2, 1), (3, 4), (5,), ()), 10)

    def test_to_where_it_stands_already(self):
        self.told([(0, 0, "first")], LOTS, 3)
        self.told([(4, 1, "last")], LOTS, 1)

    def test_a_book_that_stands_alone(self):
        self.told([(5, 2, "first")], LOTS, 99)
        self.told([(5, 2, "last")], LOTS, 99)
        self.told([(5, 1, "first")], ((0, 1, 2), (5, 3, 4), (), ()), 99)
        self.told([(5, 3, "last")], ((0, 1, 2), (3, 4), (), (5,)), 99)

    def test_several_in_turn(self):
        self.told([(0, 1, "first"), (1, 1, "first")], ((2,), (1, 0, 3, 4), (5,), ()), 13)
        self.told([(1, 1, "first"), (0, 1, "first")], ((2,), (0, 1, 3, 4), (5,), ()), 13)
        self.told([(0, 1, "last"), (3, 3, "last"), (5, 3, "first"), (4, 0, "first")],
                  ((4, 1, 2), (0,), (), (5, 3)), 110)

    def test_a_book_that_is_taken_several_times_is_paid_each_time(self):
        self.told([(3, 0, "first"), (3, 3, "first"), (3, 1, "first")], LOTS, 21)
        self.told([(4, 1, "first")] * 3, ((0, 1, 2), (4, 3), (5,), ()), 3)

    def test_the_greatest_shelf(self):
        shelf = ((99,) * 12, ((), (), (), (), tuple(range(12))))
        deeds = [(book, 0, "first") for book in range(12)]
        self.assertEqual(done(shelf, deeds), ((tuple(range(11, -1, -1)), (), (), (), ()), 1188))

    def test_nothing_handed_in_is_changed(self):
        shelf = ((1, 2, 3), ((0, 1), (2,)))
        deeds = [(0, 1, "last"), (2, 0, "first")]
        done(shelf, deeds)
        self.assertEqual(shelf, ((1, 2, 3), ((0, 1), (2,))))
        self.assertEqual(deeds, [(0, 1, "last"), (2, 0, "first")])

    def test_asked_again_the_same_is_told(self):
        deeds = [(0, 1, "last"), (3, 0, "first")]
        first = done(SHELF, deeds)
        deeds.append((5, 3, "last"))
        longer = done(SHELF, deeds)
        deeds.pop()
        self.assertEqual(done(SHELF, deeds), first)
        self.assertEqual(longer[1], first[1] + 99)


class BadWays(unittest.TestCase):
    def refused(self, deeds, number, why):
        with self.subTest(deeds=deeds):
            with self.assertRaises(BadWay) as caught:
                done(SHELF, deeds)
            self.assertEqual((caught.exception.number, caught.exception.why), (number, why))

    def test_no_list(self):
        for deeds in (None, 0, True, "deeds", (), ((0, 1, "first"),), (0, 1, "first"), {}):
            self.refused(deeds, 0, "form")

    def test_no_tuple_of_three(self):
        for deed in (None, 0, True, "abc", [0, 1, "first"], (), (0,), (0, 1),
                     (0, 1, "first", "last"), (0, 1, "first", None)):
            self.refused([deed], 0, "form")

    def test_no_book_of_the_shelf(self):
        for book in (6, 12, 99, -1, -6, True, False, None, "0", "", (0,), [0]):
            self.refused([(book, 1, "first")], 0, "form")

    def test_no_lot_of_the_shelf(self):
        for lot in (4, 5, 99, -1, -4, True, False, None, "0", "", (0,), [0], "first"):
            self.refused([(0, lot, "first")], 0, "form")

    def test_no_end(self):
        for end in ("", "First", "LAST", "firs", "lasts", "middle", " first", 0, -1, True, None,
                    ("first",), ["last"]):
            self.refused([(0, 1, end)], 0, "form")

    def test_a_fixed_book(self):
        for lot in (0, 1, 3):
            for end in ("first", "last"):
                self.refused([(2, lot, end)], 0, "fixed")

    def test_a_fixed_book_in_no_such_tuple(self):
        for deed in ((2, 4, "first"), (2, 0, "end"), (2, 0), [2, 0, "first"], (2, True, "last")):
            self.refused([deed], 0, "form")

    def test_the_first_of_several(self):
        good = (0, 1, "last")
        self.refused([good, (2, 0, "first")], 1, "fixed")
        self.refused([good, good, (0, 4, "first"), (2, 0, "first")], 2, "form")
        self.refused([good, (2, 0, "last"), (0, 4, "first"), good], 1, "fixed")
        self.refused([None, (2, 0, "last")], 0, "form")
        self.refused([good, good, good, None], 3, "form")

    def test_the_shelf_is_refused_ahead_of_the_deeds(self):
        for deeds in (None, [None], [(0, 0, "middle")]):
            with self.subTest(deeds=deeds):
                with self.assertRaises(BadShelf) as caught:
                    done(((0,), ((0,),)), deeds)
                self.assertEqual((caught.exception.part, caught.exception.number), (0, 0))

    def test_what_is_refused_changes_nothing(self):
        deeds = [(0, 1, "last"), (2, 0, "first"), (1, 0, "first")]
        self.refused(deeds, 1, "fixed")
        self.assertEqual(deeds, [(0, 1, "last"), (2, 0, "first"), (1, 0, "first")])
        self.assertEqual(SHELF, ((3, 10, None, 7, 1, 99), ((0, 1, 2), (3, 4), (5,), ())))
        self.assertEqual(done(SHELF, []), (LOTS, 0))


if __name__ == "__main__":
    unittest.main()
