"""Point 14: shelves as texts."""

import unittest

from pinshelf.errors import BadShelf, BadText
from pinshelf.notes import read, written

TWELVE = ((1, 2, 3, 4, 5, 6, 7, 8, 9, 10, 98, 99), ((11, 0, 10), (1,), (), (2, 3, 4, 5), (9, 8, 7, 6)))
TEXTS = [
    (((3, None, 7), ((0, 1), (), (2,))), ["prices 3 - 7", "lot 0 1", "lot", "lot 2"]),
    (((1,), ((0,),)), ["prices 1", "lot 0"]),
    (((99,), ((0,),)), ["prices 99", "lot 0"]),
    (((10, 9), ((1, 0),)), ["prices 10 9", "lot 1 0"]),
    (((None,), ((0,),)), ["prices -", "lot 0"]),
    (((None, None), ((), (), (1,), (), (0,))), ["prices - -", "lot", "lot", "lot 1", "lot", "lot 0"]),
    (((None, 20, None), ((2, 0, 1), ())), ["prices - 20 -", "lot 2 0 1", "lot"]),
    (TWELVE, ["prices 1 2 3 4 5 6 7 8 9 10 98 99", "lot 11 0 10", "lot 1", "lot", "lot 2 3 4 5",
              "lot 9 8 7 6"]),
    (((50,) * 12, (tuple(range(12)),)), ["prices" + " 50" * 12, "lot 0 1 2 3 4 5 6 7 8 9 10 11"]),
]


class Written(unittest.TestCase):
    def test_row_by_row(self):
        for shelf, rows in TEXTS:
            with self.subTest(shelf=shelf):
                found = written(shelf)
                self.assertIs(type(found), str)
                self.assertEqual(found.split("\n"), rows)
                self.assertEqual(found, "\n".join(rows))

    def test_asked_again_the_same_is_told(self):
        self.assertEqual(written(TWELVE), written(TWELVE))

    def test_a_shelf_that_cannot_be(self):
        rows = [(None, -1, 0), ("prices 1\nlot 0", -1, 0), ([(1,), ((0,),)], -1, 0),
                (((0,), ((0,),)), 0, 0), (((1, True), ((0, 1),)), 0, 1), (((1,), ()), 1, 0),
                (((1,), ((0,),) + ((),) * 5), 1, 5), (((1, 2), ((1,), ())), 2, 0)]
        for shelf, part, number in rows:
            with self.subTest(shelf=shelf):
                with self.assertRaises(BadShelf) as caught:
                    written(shelf)
                self.assertEqual((caught.exception.part, caught.exception.number), (part, number))


class Read(unittest.TestCase):
    def same(self, found, shelf):
        self.assertEqual(found, shelf)
        self.assertEqual([type(part) for part in (found, *found, *found[1])],
                         [tuple] * (3 + len(shelf[1])))
        self.assertTrue(all(price is None or type(price) is int for price in found[0]))
        self.assertTrue(all(type(book) is int for lot in found[1] for book in lot))

    def test_row_by_row(self):
        for shelf, rows in TEXTS:
            with self.subTest(shelf=shelf):
                self.same(read("\n".join(rows)), shelf)

    def test_what_is_written_is_read_to_the_same(self):
        for shelf, _ in TEXTS:
            with self.subTest(shelf=shelf):
                self.same(read(written(shelf)), shelf)

    def test_each_price_and_each_book(self):
        for price in range(1, 100):
            self.same(read(written(((price, None), ((0, 1),)))), ((price, None), ((0, 1),)))
        for many in range(1, 13):
            shelf = ((7,) * many, (tuple(range(many))[::-1],))
            self.same(read(written(shelf)), shelf)

    def test_asked_again_the_same_is_told(self):
        text = "prices 3 - 7\nlot 0 1\nlot\nlot 2"
        first = read(text)
        read("prices 1\nlot 0")
        self.assertEqual(read(text), first)
        self.assertEqual(text, "prices 3 - 7\nlot 0 1\nlot\nlot 2")


class BadTexts(unittest.TestCase):
    def refused(self, text, row):
        with self.subTest(text=text):
            with self.assertRaises(BadText) as caught:
                read(text)
            self.assertEqual(caught.exception.row, row)

    def price_row(self, row):
        """A row that can't be the first one."""
        self.refused(row, 0)
        self.refused(row + "\nlot 0\nlot 1", 0)

    def lot_row(self, row):
        """A row that can't be a further one."""
        self.refused("prices 3 -\n" + row, 1)
        self.refused("prices 3 -\nlot 0 1\n" + row, 2)
        self.refused("prices 3 -\n" + row + "\nlot 0 1", 1)

    def test_no_row(self):
        self.refused("", 0)

    def test_empty_rows(self):
        self.refused("\n", 0)
        self.refused("\nprices 3\nlot 0", 0)
        self.refused("prices 3\n\nlot 0", 1)
        self.refused("prices 3\nlot 0\n\nlot", 2)

    def test_a_line_end_behind_the_last_row(self):
        self.refused("prices 3\nlot 0\n", 2)
        self.refused("prices 3\nlot 0\nlot\n", 3)
        self.refused("prices 3\n", 1)
        self.refused("prices 3\nlot 0\n\n", 2)

    def test_other_words(self):
        for row in ("price 3 -", "pricess 3 -", "lots 3 -", "3 -", "-", " ", "prices: 3 -", "prices3 -",
                    "prices 3 x", "prices x 3", "prices None", "prices 3 --", "prices 3 -7", "prices 3-",
                    "prices 3,4", "prices 3.0", "prices prices 3", "prices lot 3", "prices 3 a7",
                    "prices 7a"):
            self.price_row(row)
        for row in ("lo 1", "lots 1", "1", "0 1", "-", "lot: 1", "lot1", "lot x", "lot -", "lot 1 -",
                    "lot lot", "lot 1 lot", "lot prices", "lot 1,0", "lot 1.0", "lot a1", "lot 1a", " "):
            self.lot_row(row)

    def test_a_capital(self):
        for row in ("Prices 3 -", "PRICES 3 -", "priceS 3 -"):
            self.price_row(row)
        for row in ("Lot 0", "LOT 0", "loT"):
            self.lot_row(row)

    def test_lots_ahead_of_prices(self):
        self.refused("lot 0\nprices 3", 0)
        self.refused("lot 0", 0)
        self.refused("lot", 0)
        self.refused("lot 0\nlot 1\nprices 3 4", 0)

    def test_second_prices(self):
        self.refused("prices 3\nprices 3\nlot 0", 1)
        self.refused("prices 3\nlot 0\nprices 3", 2)
        self.refused("prices 3\nlot 0\nprices", 2)

    def test_three_figures(self):
        for word in ("100", "123", "999", "000", "007", "1000"):
            self.price_row(f"prices {word}")
            self.price_row(f"prices 3 {word}")
            self.lot_row(f"lot {word}")
            self.lot_row(f"lot 1 {word}")

    def test_needless_figures(self):
        for word in ("00", "01", "07", "09"):
            self.price_row(f"prices {word}")
            self.price_row(f"prices - {word}")
            self.lot_row(f"lot {word}")
            self.lot_row(f"lot 1 {word}")

    def test_signs_ahead(self):
        for word in ("+3", "-3", "+0", "-0", "--", "+", "-1", "~1"):
            self.price_row(f"prices {word}")
            self.price_row(f"prices 4 {word} -")
            self.lot_row(f"lot {word}")
            self.lot_row(f"lot 0 {word}")

    def test_two_blanks(self):
        for row in ("prices  3 -", "prices 3  -", "prices   3 -"):
            self.price_row(row)
        for row in ("lot  1", "lot 0  1"):
            self.lot_row(row)

    def test_a_blank_at_either_end(self):
        for row in (" prices 3 -", "prices 3 - ", "prices ", " prices", "prices 3 -  "):
            self.price_row(row)
        for row in (" lot 1", "lot 1 ", "lot ", " lot", "lot 1  "):
            self.lot_row(row)

    def test_other_signs(self):
        for sign in "!#$&'()*,./:;<=>?@[]^_`{|}~":
            self.price_row(f"prices 3 {sign}")
            self.price_row(f"prices 3{sign}")
            self.price_row(f"prices{sign}3")
            self.lot_row(f"lot {sign}")
            self.lot_row(f"lot 1{sign}")
            self.lot_row(f"lot{sign}1")

    def test_no_text(self):
        for text in (None, 0, 5, True, False, [], (), ["prices 3", "lot 0"], ((3,), ((0,),))):
            self.refused(text, 0)

    def test_the_first_row_of_several(self):
        self.refused("prices 03\nlot 00\nlot x", 0)
        self.refused("prices 3\nlot 00\nlot x", 1)
        self.refused("prices 3\nlot 0\nlot x\nlot 00", 2)
        self.refused("prices 3\nlot 0\nlot\nlot\nlot\nlot\nlot\nlot\nlot\nLot", 9)


class TextsOfNoShelf(unittest.TestCase):
    def refused(self, text, part, number):
        with self.subTest(text=text):
            with self.assertRaises(BadShelf) as caught:
                read(text)
            self.assertEqual((caught.exception.part, caught.exception.number), (part, number))

    def test_a_price_of_nought(self):
        self.refused("prices 0\nlot 0", 0, 0)
        self.refused("prices 3 - 0 0\nlot 0 1 2 3", 0, 2)

    def test_no_price_at_all(self):
        self.refused("prices\nlot 0", 0, 0)
        self.refused("prices\nlot", 0, 0)
        self.refused("prices", 0, 0)

    def test_a_thirteenth_book(self):
        self.refused("prices" + " 5" * 13 + "\nlot 0 1 2 3 4 5 6 7 8 9 10 11 12", 0, 12)
        self.refused("prices" + " -" * 14 + "\nlot 0", 0, 12)

    def test_no_lot(self):
        self.refused("prices 3", 1, 0)
        self.refused("prices 3 - 99", 1, 0)

    def test_a_sixth_lot(self):
        self.refused("prices 3\nlot 0" + "\nlot" * 5, 1, 5)
        self.refused("prices 3" + "\nlot" * 7, 1, 5)

    def test_a_book_that_there_is_not(self):
        self.refused("prices 3 4\nlot 0\nlot 1 2", 1, 1)
        self.refused("prices 3 4\nlot 99\nlot 1 0", 1, 0)

    def test_a_book_twice(self):
        self.refused("prices 3 4\nlot 0 1 0", 1, 0)
        self.refused("prices 3 4\nlot 0 1\nlot\nlot 1", 1, 2)

    def test_a_book_that_is_missing(self):
        self.refused("prices 3 4\nlot 1", 2, 0)
        self.refused("prices 3 4 -\nlot 0\nlot 1", 2, 2)
        self.refused("prices 3 4\nlot", 2, 0)

    def test_words_are_refused_ahead_of_shelves(self):
        for text, row in (("prices 0\nlot x", 1), ("prices\nlot 0\n", 2), ("prices 3\nlot 0 0\nlot 07", 2),
                          ("prices 3\nlot 0" + "\nlot" * 6 + "\nlot -", 8)):
            with self.subTest(text=text):
                with self.assertRaises(BadText) as caught:
                    read(text)
                self.assertEqual(caught.exception.row, row)


if __name__ == "__main__":
    unittest.main()
