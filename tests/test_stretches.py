"""Points 5 and 6: which books of a goal can stay, and what bars a goal."""

import unittest
from itertools import combinations, permutations, product

from pinshelf.deeds import done
from pinshelf.stretches import barred, stays


def goals(books, lots):
    """Tell all goals of so many books in so many lots."""
    found = {}
    for turn in permutations(range(books)):
        for places in product(range(lots), repeat=books):
            goal = tuple(tuple(book for book in turn if places[book] == lot) for lot in range(lots))
            found[goal] = True
    return list(found)


def dearest(prices, lot, wanted):
    """Tell what point 5 does of one lot, by its words."""
    fixed = [book for book in wanted if prices[book] is None]
    spans = {}
    for start, past in combinations(range(len(wanted) + 1), 2):
        part = wanted[start:past]
        # combinations keep the turn in which the books stand, whatever is between.
        if part in list(combinations(lot, len(part))) and all(book in part for book in fixed):
            spans[start, past] = sum(prices[book] or 0 for book in part)
    return sorted(span for span in spans if spans[span] == max(spans.values()))


def come_to(shelf):
    """Tell all goals to which deeds lead."""
    prices, lots = shelf
    deeds = [(book, lot, end) for book, price in enumerate(prices) if price is not None
             for lot in range(len(lots)) for end in ("first", "last")]
    seen = {lots: True}
    waiting = [lots]
    while waiting:
        now = waiting.pop()
        for deed in deeds:
            behind = done((prices, now), [deed])[0]
            if behind not in seen:
                seen[behind] = True
                waiting.append(behind)
    return seen


class Stays(unittest.TestCase):
    def told(self, prices, lots, goal, spans):
        self.assertEqual(stays((prices, lots), goal), spans)

    def test_all_can_stay(self):
        self.told((3, 4, 5), ((0, 1, 2),), ((0, 1, 2),), [[(0, 3)]])
        self.told((3, 4, 5), ((0, 1), (2,)), ((0, 1), (2,)), [[(0, 2)], [(0, 1)]])

    def test_one_has_the_greatest_price(self):
        self.told((3, 4, 5), ((0, 1, 2),), ((2, 0, 1),), [[(1, 3)]])
        self.told((3, 4, 8), ((0, 1, 2),), ((2, 0, 1),), [[(0, 1)]])
        self.told((3, 9, 5), ((0, 1, 2),), ((2, 1, 0),), [[(1, 2)]])

    def test_the_price_counts_and_not_how_many_books(self):
        self.told((1, 1, 1, 4), ((3, 0, 1, 2),), ((0, 1, 2, 3),), [[(3, 4)]])
        self.told((1, 1, 2, 4), ((3, 0, 1, 2),), ((0, 1, 2, 3),), [[(0, 3), (3, 4)]])

    def test_several_of_the_same_price_rising(self):
        self.told((3, 4, 7), ((0, 1, 2),), ((2, 0, 1),), [[(0, 1), (1, 3)]])
        self.told((5, 5, 5), ((0, 1, 2),), ((2, 1, 0),), [[(0, 1), (1, 2), (2, 3)]])
        self.told((2, 2, 2, 2), ((0, 1, 2, 3),), ((1, 2, 0, 3),), [[(0, 2), (2, 4)]])

    def test_stretches_of_several_lots(self):
        self.told((2, 2, 2), ((1, 0), (2,)), ((1, 2, 0), ()), [[(0, 1), (2, 3)], []])
        self.told((2, 2, 2, 2), ((0, 1), (3, 2)), ((1, 0), (3, 2)), [[(0, 1), (1, 2)], [(0, 2)]])

    def test_books_between_on_the_shelf(self):
        self.told((3, 4, 5, 6), ((0, 2, 1, 3), ()), ((0, 1), (2, 3)), [[(0, 2)], []])
        self.told((3, 4, 5, 6), ((0, 2, 3, 1), ()), ((0, 1), (3, 2)), [[(0, 2)], []])
        self.told((3, 4, None, 6), ((0, 2, 3, 1),), ((0, 3, 2, 1),), [[(2, 4)]])

    def test_books_between_in_the_goal(self):
        # What stands between in the goal's lot must stand there on the shelf, too.
        self.told((3, 4, 5), ((0, 1), (2,)), ((0, 2, 1), ()), [[(2, 3)], []])

    def test_another_turn(self):
        self.told((3, 4), ((0, 1),), ((1, 0),), [[(0, 1)]])
        self.told((4, 4), ((0, 1),), ((1, 0),), [[(0, 1), (1, 2)]])
        self.told((4, 9, 4, 9), ((0, 1, 2, 3),), ((3, 2, 1, 0),), [[(0, 1), (2, 3)]])

    def test_empty_lots(self):
        self.told((3,), ((), (0,), ()), ((), (0,), ()), [[], [(0, 1)], []])
        self.told((3,), ((0,), (), ()), ((), (), (0,)), [[], [], []])

    def test_lots_of_which_none_holds(self):
        self.told((3, 4), ((0,), (1,)), ((1,), (0,)), [[], []])
        self.told((3, 4, 5), ((0, 1), (2,)), ((), (2, 0, 1)), [[], [(0, 1)]])

    def test_the_same_books_in_another_lot_do_not_stand(self):
        self.told((3, 4), ((0, 1), ()), ((), (0, 1)), [[], []])

    def test_fixed_books_must_be_in_it(self):
        self.told((9, None, 1), ((0, 1, 2),), ((1, 2, 0),), [[(0, 2)]])
        self.told((9, None, 1), ((0, 1, 2),), ((2, 1, 0),), [[(1, 2)]])
        self.told((9, None, 9), ((1, 0, 2),), ((0, 1, 2),), [[(1, 3)]])
        self.told((9, None, 1, None), ((1, 2, 3, 0),), ((0, 1, 2, 3),), [[(1, 4)]])

    def test_fixed_books_have_no_price(self):
        self.told((None,), ((0,),), ((0,),), [[(0, 1)]])
        self.told((None, None), ((0, 1),), ((0, 1),), [[(0, 2)]])
        self.told((None, 5, 5), ((0, 1, 2),), ((2, 0, 1),), [[(1, 3)]])
        self.told((None, 5, 5), ((1, 0, 2),), ((1, 0, 2),), [[(0, 3)]])

    def test_fixed_books_of_which_none_holds(self):
        self.told((9, None), ((0,), (1,)), ((0, 1), ()), [[], []])
        self.told((None, None, 9), ((0, 1, 2),), ((1, 0, 2),), [[]])
        self.told((None, None, 9), ((0, 1), (2,)), ((0, 2, 1), ()), [[], []])

    def test_fixed_books_that_the_goals_lot_lacks_do_not_bar_it(self):
        self.told((None, 4, 5), ((0, 1), (2,)), ((1,), (0, 2)), [[(0, 1)], []])

    def test_five_lots(self):
        self.told((1, 2, 3, 4, 5, 6, 7), ((0, 1), (2,), (), (3, 4), (5, 6)),
                  ((1, 0), (), (2,), (4, 3, 5), (6,)), [[(0, 1)], [], [], [(0, 1)], [(0, 1)]])

    def test_twelve_books(self):
        books = tuple(range(12))
        self.told((99,) * 12, (books,), (books,), [[(0, 12)]])
        self.told((99,) * 12, (books,), (books[::-1],), [[(k, k + 1) for k in range(12)]])

    def test_all_goals_of_small_shelves(self):
        for lots in (((2, 0, 3, 1),), ((0, 1), (2, 3)), ((3, 1, 2), (0,))):
            for prices in product((2, 3, None), repeat=4):
                for goal in goals(4, len(lots)):
                    with self.subTest(prices=prices, lots=lots, goal=goal):
                        self.told(prices, lots, goal,
                                  [dearest(prices, lot, wanted) for lot, wanted in zip(lots, goal)])

    def test_what_is_told_may_be_changed(self):
        shelf = ((5, 5, 5), ((0, 1), (2,), ()))
        goal = ((1, 0), (2,), ())
        first = stays(shelf, goal)
        self.assertEqual(first, [[(0, 1), (1, 2)], [(0, 1)], []])
        first[0].clear()
        first[1].append("x")
        first[2].append("x")
        self.assertEqual(first, [[], [(0, 1), "x"], ["x"]])
        first.pop()
        self.assertEqual(stays(shelf, goal), [[(0, 1), (1, 2)], [(0, 1)], []])
        self.assertEqual((shelf, goal), (((5, 5, 5), ((0, 1), (2,), ())), ((1, 0), (2,), ())))

    def test_empty_lists_are_not_the_same_one(self):
        first = stays(((5,), ((0,), (), ())), ((0,), (), ()))
        first[1].append("x")
        self.assertEqual(first[2], [])


class Barred(unittest.TestCase):
    def told(self, prices, lots, goal, why):
        self.assertEqual(barred((prices, lots), goal), why)

    def test_none_without_fixed_books(self):
        self.told((3, 4, 5), ((0, 1), (2,)), ((2, 1), (0,)), None)
        self.told((3, 4, 5), ((0, 1), (2,)), ((), (2, 1, 0)), None)

    def test_none_where_all_fixed_books_stay(self):
        self.told((None, 4, 5), ((0, 1), (2,)), ((2, 0), (1,)), None)
        self.told((None, 4, None), ((0, 1, 2), ()), ((0, 2), (1,)), None)
        self.told((None, 4, None, 5), ((0, 1, 2, 3), ()), ((3, 0, 1, 2), ()), None)
        self.told((None, None), ((0,), (1,)), ((0,), (1,)), None)

    def test_the_first_fixed_book_in_another_lot(self):
        self.told((None, 4), ((0,), (1,)), ((), (0, 1)), ("lot", 0))
        self.told((4, None, None), ((0, 1, 2), ()), ((), (2, 1, 0)), ("lot", 1))
        self.told((4, None, None), ((2, 0), (1,)), ((1, 0), (2,)), ("lot", 1))
        self.told((4, None, None), ((0, 1, 2), ()), ((1,), (0, 2)), ("lot", 2))
        self.told((None, None, None), ((2,), (1,), (0,)), ((0,), (1,), (2,)), ("lot", 0))

    def test_the_first_lot_whose_fixed_books_are_in_another_turn(self):
        self.told((None, None, 4), ((0, 1), (2,)), ((1, 0), (2,)), ("turn", 0))
        self.told((4, None, None), ((0,), (1, 2)), ((0,), (2, 1)), ("turn", 1))
        self.told((None,) * 4, ((0, 1), (), (2, 3)), ((1, 0), (), (3, 2)), ("turn", 0))
        self.told((None,) * 4, ((0, 1), (), (2, 3)), ((0, 1), (), (3, 2)), ("turn", 2))

    def test_a_book_that_would_have_to_come_between_fixed_ones(self):
        self.told((None, None, 4), ((0, 1), (2,)), ((0, 2, 1), ()), ("turn", 0))
        self.told((None, None, 4), ((2, 0, 1),), ((0, 2, 1),), ("turn", 0))
        self.told((5, 4, None, None), ((2, 0, 1, 3),), ((2, 1, 0, 3),), ("turn", 0))
        self.told((None, None, 4), ((0, 2, 1),), ((0, 2, 1),), None)

    def test_lot_ahead_of_turn(self):
        self.told((None, None, None), ((0, 1), (2,)), ((2, 1, 0), ()), ("lot", 2))
        self.told((None,) * 4, ((0, 1), (2,), (3,)), ((1, 0), (3,), (2,)), ("lot", 2))

    def test_lots_without_fixed_books_never_bar(self):
        self.told((None, 4, 5), ((0,), (1,), (2,)), ((0,), (2,), (1,)), None)
        self.told((None, 4, 5), ((0,), (1, 2)), ((0,), (2, 1)), None)

    def test_it_is_a_tuple_and_told_again(self):
        shelf = ((None, 4), ((0,), (1,)))
        goal = ((1,), (0,))
        first = barred(shelf, goal)
        self.assertIsInstance(first, tuple)
        self.assertEqual(barred(shelf, goal), first)
        self.assertEqual((shelf, goal), (((None, 4), ((0,), (1,))), ((1,), (0,))))

    def test_none_is_told_just_where_deeds_lead_to_the_goal(self):
        rows = (((0, 1, 2, 3),), ((0, 1), (2, 3)), ((0, 1, 2), (3,)))
        for lots in rows:
            for prices in product((1, None), repeat=4):
                shelf = (prices, lots)
                reached = come_to(shelf)
                for goal in goals(4, len(lots)):
                    with self.subTest(shelf=shelf, goal=goal):
                        self.assertEqual(barred(shelf, goal) is None, goal in reached)


if __name__ == "__main__":
    unittest.main()
