"""Points 7, 8 and 9: least ways to a goal, deeds that are judged, and books that could be fixed."""

import unittest
from itertools import product
from math import comb, factorial

from pinshelf.deeds import done
from pinshelf.errors import BadGoal, BadShelf, BadWay, NoWay
from pinshelf.least import fewest, judged, least, spare, ways
from pinshelf.stretches import barred

ENDS = ("first", "last")


def moved(lots, book, lot, end):
    """Tell the lots behind a deed, by point 4's words."""
    rows = [[other for other in row if other != book] for row in lots]
    rows[lot] = [book] + rows[lot] if end == "first" else rows[lot] + [book]
    return tuple(map(tuple, rows))


def steps(prices, lots):
    """Tell (price, lots behind) of each deed that can be."""
    return [(price, moved(lots, book, lot, end)) for book, price in enumerate(prices)
            if price is not None for lot in range(len(lots)) for end in ENDS]


def searched(prices, lots):
    """Tell, for all lots that deeds lead to, the least cost and the number of lists that have it.

    A list of the least cost has just such lists as its beginnings, since each deed costs something.
    """
    costs, counts = {lots: 0}, {lots: 1}
    waiting = {0: {lots}}
    while waiting:
        cost = min(waiting)
        for now in waiting.pop(cost):
            if costs[now] < cost:
                continue
            for price, behind in steps(prices, now):
                total = cost + price
                if total < costs.get(behind, total + 1):
                    costs[behind], counts[behind] = total, 0
                    waiting.setdefault(total, set()).add(behind)
                if total == costs[behind]:
                    counts[behind] += counts[now]
    return costs, counts


def all_goals(books, lots):
    """Tell all goals of so many books in so many lots."""
    rows = [((),) * lots]
    for book in range(books):
        rows = [row[:lot] + (row[lot][:at] + (book,) + row[lot][at:],) + row[lot + 1:]
                for row in rows for lot in range(lots) for at in range(len(row[lot]) + 1)]
    return rows


class Told(unittest.TestCase):
    def check_way(self, shelf, goal, cost):
        """The way that is told costs just what is told, leads there, and takes no book twice."""
        found = least(shelf, goal)
        self.assertIs(type(found), tuple)
        told, way = found
        self.assertIs(type(told), int)
        self.assertIs(type(way), list)
        self.assertEqual(told, cost)
        self.assertEqual(done(shelf, way), (goal, cost))
        lots = shelf[1]
        for deed in way:
            self.assertIs(type(deed), tuple)
            lots = moved(lots, *deed)
        self.assertEqual(lots, goal)
        self.assertEqual(sum(shelf[0][deed[0]] for deed in way), cost)
        self.assertEqual(len({deed[0] for deed in way}), len(way))

    def check(self, shelf, goal, cost, few, many):
        with self.subTest(shelf=shelf, goal=goal):
            self.check_way(shelf, goal, cost)
            self.assertEqual(fewest(shelf, goal), few)
            self.assertEqual(ways(shelf, goal), many)

    def check_none(self, shelf, goal, why):
        with self.subTest(shelf=shelf, goal=goal):
            self.assertEqual(barred(shelf, goal)[0], why)
            self.assertIsNone(least(shelf, goal))
            self.assertIsNone(fewest(shelf, goal))
            found = ways(shelf, goal)
            self.assertIs(type(found), int)
            self.assertEqual(found, 0)


class Least(Told):
    def test_a_goal_that_stands_already(self):
        for shelf in (((1,), ((0,),)), ((None,), ((), (0,))), ((3, None, 7), ((2, 0), (), (1,))),
                      ((5,) * 12, (tuple(range(12)),)), ((5,) * 5, ((4,), (3,), (2,), (1,), (0,)))):
            self.check(shelf, shelf[1], 0, 0, 1)
            self.assertEqual(least(shelf, shelf[1]), (0, []))

    def test_one_deed(self):
        shelf = ((3, 4, 5), ((0, 1), (2,)))
        self.check(shelf, ((1, 0), (2,)), 3, 1, 1)
        self.check(shelf, ((1,), (0, 2)), 3, 1, 1)
        self.check(shelf, ((1,), (2, 0)), 3, 1, 1)
        self.check(shelf, ((2, 0, 1), ()), 5, 1, 1)

    def test_which_of_two_moves_is_told_by_the_prices(self):
        self.assertEqual(least(((3, 4), ((0, 1),)), ((1, 0),)), (3, [(0, 0, "last")]))
        self.assertEqual(least(((4, 3), ((0, 1),)), ((1, 0),)), (3, [(1, 0, "first")]))
        self.check(((4, 4), ((0, 1),)), ((1, 0),), 4, 1, 2)

    def test_a_book_that_comes_alone_into_a_lot_has_two_deeds(self):
        self.check(((7,), ((0,), ())), ((), (0,)), 7, 1, 2)
        self.check(((7, 8), ((0, 1), ())), ((1,), (0,)), 7, 1, 2)
        self.check(((7, 8), ((0,), (1,))), ((1,), (0,)), 15, 2, 8)
        self.check(((7, 8), ((0, 1), (), ())), ((), (0,), (1,)), 15, 2, 8)

    def test_lots_of_which_nothing_can_stay(self):
        self.check(((7, 8), ((0, 1), ())), ((), (0, 1)), 15, 2, 4)
        self.check(((7, 8), ((0, 1), ())), ((), (1, 0)), 15, 2, 4)
        self.check(((1, 2, 4), ((0, 1, 2), ())), ((), (1, 0, 2)), 7, 3, 8)
        self.check(((1, 2, 4), ((0, 1), (2,))), ((2,), (1, 0)), 7, 3, 2 * 4 * 3)

    def test_deeds_to_both_ends_come_in_between_one_another(self):
        self.check(((1, 9, 1), ((1,), (0, 2))), ((0, 1, 2), ()), 2, 2, 2)
        self.check(((1, 9, 1, 1), ((1,), (0, 2, 3))), ((0, 1, 2, 3), ()), 3, 3, 3)
        self.check(((1, 1, 9, 1, 1), ((2,), (0, 1, 3, 4))), ((0, 1, 2, 3, 4), ()), 4, 4, 6)
        self.check(((1, 1, 9, 9), ((2, 0), (3, 1))), ((0, 2), (1, 3)), 2, 2, 2)

    def test_more_deeds_may_be_cheaper_than_fewer(self):
        self.check(((9, 2, 3), ((0, 1, 2),)), ((1, 2, 0),), 5, 1, 1)
        self.check(((9, 1, 1, 1), ((0, 1, 2, 3),)), ((1, 2, 3, 0),), 3, 1, 1)
        self.check(((99, 1, 1, 1, 1), ((0, 1, 2, 3, 4), ())), ((1, 2, 3, 4, 0), ()), 4, 1, 1)
        self.check(((5, 2, 3), ((0, 1, 2),)), ((1, 2, 0),), 5, 1, 2)

    def test_several_stretches_of_one_price(self):
        self.check(((5, 5, 5), ((0, 1, 2),)), ((2, 1, 0),), 10, 2, 1 + 2 + 1)
        self.check(((2, 1, 1), ((0, 1, 2),)), ((1, 2, 0),), 2, 1, 2)
        self.check(((2, 1, 1, 5), ((0, 1, 2), (3,))), ((1, 2, 0), (3,)), 2, 1, 2)
        self.check(((2, 1, 1, 4, 4), ((0, 1, 2), (3, 4))), ((1, 2, 0), (4, 3)), 6, 2,
                   2 * (comb(2, 1) + comb(3, 1)))

    def test_books_between_on_the_shelf_needn_t_be_paid(self):
        self.check(((4, 1, 5), ((0, 1, 2), ())), ((0, 2), (1,)), 1, 1, 2)
        self.check(((4, 1, 5), ((0, 1, 2),)), ((0, 2, 1),), 1, 1, 1)

    def test_books_that_would_have_to_come_between_are_paid(self):
        self.check(((4, 1, 5), ((0, 2), (1,))), ((0, 1, 2), ()), 5, 2, 1)
        self.check(((4, 1, 4), ((0, 2), (1,))), ((0, 1, 2), ()), 5, 2, 2)

    def test_fixed_books(self):
        self.check(((9, None, 1), ((0, 1, 2),)), ((1, 2, 0),), 9, 1, 1)
        self.check(((9, None, 1), ((0, 1, 2),)), ((2, 1, 0),), 10, 2, 2)
        self.check(((9, None, 9), ((0, 1), (2,))), ((2, 1), (0,)), 18, 2, 4)
        self.check(((None, None, 4), ((0, 2, 1), ())), ((0, 1), (2,)), 4, 1, 2)
        self.check(((None, 8, None, 9), ((0, 1, 2, 3),)), ((3, 0, 2, 1),), 17, 2, 2)
        self.check(((None, 8, 3, 8), ((1, 0, 3, 2),)), ((1, 3, 0, 2),), 16, 2, 1)

    def test_a_fixed_book_that_is_in_another_lot_bars(self):
        self.check_none(((None, 4), ((0,), (1,))), ((), (0, 1)), "lot")
        self.check_none(((None, 4), ((0,), (1,))), ((1,), (0,)), "lot")
        self.check_none(((4, None), ((0, 1), (), ())), ((0,), (), (1,)), "lot")

    def test_fixed_books_in_another_turn_bar(self):
        self.check_none(((None, None), ((0, 1),)), ((1, 0),), "turn")
        self.check_none(((None, None, 4), ((0, 1), (2,))), ((0, 2, 1), ()), "turn")
        self.check_none(((4, None, None), ((0,), (2, 1))), ((0,), (1, 2)), "turn")
        self.check_none(((4, None, 4, None), ((0, 1, 2, 3),)), ((1, 2, 0, 3),), "turn")

    def test_twelve_books(self):
        books = tuple(range(12))
        prices = tuple(range(1, 13))
        self.check((prices, (books,)), (books[::-1],), 66, 11, 1)
        self.check(((99,) * 12, (books,)), (books[::-1],), 11 * 99, 11, 2 ** 11)
        self.check((prices, (books, ())), ((), books), 78, 12, 2 ** 12)
        self.check((prices, (books,)), (books[1:] + books[:1],), 1, 1, 1)
        self.check((prices, (books,)), (books[11:] + books[:11],), 12, 1, 1)
        self.check((prices[:11] + (None,), (books,)), (books[11:] + books[:11],), 66, 11, 1)

    def test_five_lots(self):
        lots = ((0, 1, 2), (3, 4), (5, 6), (7, 8), (9, 10, 11))
        shelf = ((4,) * 12, lots)
        together = factorial(12) // (6 * 2 * 2 * 2 * 6)
        self.check(shelf, lots[::-1], 48 - 8, 10, 2 ** 10 * factorial(10) // (6 * 2 * 2 * 6))
        self.check(shelf, lots[1:] + lots[:1], 48, 12, 2 ** 12 * together)
        self.check(((7, 8, 9, 1, None), ((0,), (1,), (2,), (3,), (4,))),
                   ((1,), (2,), (), (3, 0), (4,)), 24, 3, 2 * 2 * 6)
        self.check(((7, 8, 9, 1, 2), ((0, 1, 2, 3, 4), (), (), (), ())),
                   ((4,), (0,), (1,), (2,), (3,)), 25, 4, 2 ** 4 * 24)

    def test_all_goals_of_small_shelves(self):
        rows = [(((2, 0, 3, 1),), (1, 2, None)), (((0, 1), (2, 3)), (1, 2, None)),
                (((0, 1, 2), (), ()), (1, 3, 4, None)), (((2,), (1, 0), ()), (1, 2, None)),
                (((1,), (), (0,), (), ()), (1, 99, None))]
        for lots, choice in rows:
            books = sum(map(len, lots))
            for prices in product(choice, repeat=books):
                self.check_all(prices, lots)

    def test_all_goals_of_some_larger_shelves(self):
        self.check_all((3, 1, 4, 1, 5), ((0, 1, 2, 3, 4),))
        self.check_all((1, 1, 1, 1, 9), ((4, 0, 1, 2, 3),))
        self.check_all((1, 2, None, 2, 1), ((4, 2, 0), (3, 1)))
        self.check_all((2, 1, 1, 2), ((0, 1, 2), (), (3,)))
        self.check_all((None, 1, None, 2), ((0, 1, 2), (3,), ()))

    def check_all(self, prices, lots):
        shelf = (prices, lots)
        costs, counts = searched(prices, lots)
        deeds, _ = searched(tuple(price and 1 for price in prices), lots)
        for goal in all_goals(len(prices), len(lots)):
            with self.subTest(shelf=shelf, goal=goal):
                self.assertEqual(ways(shelf, goal), counts.get(goal, 0))
                self.assertEqual(fewest(shelf, goal), deeds.get(goal))
                if goal in costs:
                    self.check_way(shelf, goal, costs[goal])
                else:
                    self.assertIsNone(least(shelf, goal))

    def test_what_is_told_may_be_changed(self):
        shelf = ((5, 5, 5), ((0, 1), (2,)))
        goal = ((2, 1, 0), ())
        cost, way = least(shelf, goal)
        kept = list(way)
        way.reverse()
        way.append("x")
        del way[0]
        self.assertEqual(least(shelf, goal), (cost, kept))
        stands = least(shelf, shelf[1])[1]
        stands.append("x")
        self.assertEqual(least(shelf, shelf[1]), (0, []))

    def test_asked_again_the_same_is_told(self):
        shelf = ((5, 5, None, 5), ((0, 1, 2), (3,)))
        goal = ((3, 1, 2, 0), ())
        first = least(shelf, goal), fewest(shelf, goal), ways(shelf, goal), spare(shelf, goal)
        least(shelf, ((2, 1), (0, 3)))
        second = least(shelf, goal), fewest(shelf, goal), ways(shelf, goal), spare(shelf, goal)
        self.assertEqual(first, second)
        self.assertEqual(shelf, ((5, 5, None, 5), ((0, 1, 2), (3,))))
        self.assertEqual(goal, ((3, 1, 2, 0), ()))

    def test_the_shelf_is_refused_ahead_of_the_goal(self):
        for call in (least, fewest, ways, spare):
            for goal in (None, (), ((0, 0),), ((1,), (0,))):
                with self.subTest(call.__name__, goal=goal):
                    with self.assertRaises(BadShelf) as caught:
                        call(((1, 2), ((1, True),)), goal)
                    self.assertEqual((caught.exception.part, caught.exception.number), (1, 0))
                    with self.assertRaises(BadGoal):
                        call(((1, 2), ((1, 0),)), goal)

    def test_a_goal_that_cannot_be_is_refused_though_there_is_no_way_to_it(self):
        for call in (least, fewest, ways, spare):
            with self.subTest(call.__name__):
                with self.assertRaises(BadGoal) as caught:
                    call(((None, 1), ((0,), (1,))), ((1,), (0, 0)))
                self.assertEqual(caught.exception.number, 1)


class Judged(unittest.TestCase):
    SHELF = ((3, 10, None, 7), ((0, 1, 2), (3,), ()))
    GOAL = ((2, 0), (3, 1), ())

    def told(self, deeds, leads, more, goal=GOAL):
        with self.subTest(deeds=deeds):
            found = judged(self.SHELF, goal, deeds)
            self.assertIs(type(found), tuple)
            self.assertIs(found[0], leads)
            self.assertIs(type(found[1]), int)
            self.assertEqual(found, (leads, more))

    def test_that_leads_there_at_the_least_cost(self):
        self.told([(0, 0, "last"), (1, 1, "last")], True, 0)
        self.told([(1, 1, "last"), (0, 0, "last")], True, 0)

    def test_that_leads_there_and_costs_more(self):
        self.told([(0, 0, "last"), (1, 1, "last"), (0, 0, "last")], True, 3)
        self.told([(0, 0, "last"), (1, 1, "last"), (3, 1, "first")], True, 7)
        self.told([(1, 1, "first"), (3, 1, "first"), (0, 2, "last"), (0, 0, "last")], True, 10)

    def test_that_does_not_lead_there(self):
        self.told([(0, 0, "last")], False, 0)
        self.told([(1, 1, "first"), (0, 0, "last")], False, 0)
        self.told([(0, 0, "last"), (1, 1, "last"), (0, 2, "first")], False, 3)
        self.told([(0, 0, "last"), (1, 2, "first"), (1, 2, "last")], False, 10)

    def test_that_costs_more_than_the_least_way_to_where_it_leads(self):
        # It leads back to where it began, to which no deed is needed.
        self.told([(3, 2, "first"), (3, 1, "last")], False, 14)
        self.told([(3, 2, "first"), (3, 1, "last")], True, 14, self.SHELF[1])

    def test_no_deeds(self):
        self.told([], False, 0)
        self.told([], True, 0, self.SHELF[1])

    def test_a_book_taken_twice(self):
        self.told([(1, 2, "last"), (0, 0, "last"), (1, 1, "last")], True, 10)
        self.told([(0, 2, "last"), (0, 1, "last")], False, 3)
        self.told([(0, 0, "first")] * 4, True, 12, self.SHELF[1])

    def test_a_goal_that_cannot_be_come_to(self):
        self.told([], False, 0, ((0, 1), (2, 3), ()))
        self.told([(3, 2, "last")], False, 0, ((), (), (0, 1, 2, 3)))

    def test_against_a_search(self):
        for prices in product((2, 3, None), repeat=3):
            lots = ((0, 2), (1,))
            costs, _ = searched(prices, lots)
            free = [book for book in range(3) if prices[book] is not None]
            deeds = list(product(free, range(2), ENDS))
            for way in product(deeds, repeat=2):
                behind, cost = moved(moved(lots, *way[0]), *way[1]), prices[way[0][0]]
                cost += prices[way[1][0]]
                for goal in (behind, lots, ((), (2, 1, 0))):
                    with self.subTest(prices=prices, way=way, goal=goal):
                        self.assertEqual(judged((prices, lots), goal, list(way)),
                                         (goal == behind, cost - costs[behind]))

    def test_the_list_is_not_changed_and_may_be_changed_later(self):
        deeds = [(1, 2, "last"), (0, 0, "last"), (1, 1, "last")]
        first = judged(self.SHELF, self.GOAL, deeds)
        self.assertEqual(deeds, [(1, 2, "last"), (0, 0, "last"), (1, 1, "last")])
        deeds.append((0, 2, "last"))
        self.assertEqual(judged(self.SHELF, self.GOAL, deeds), (False, 13))
        deeds.pop()
        self.assertEqual(judged(self.SHELF, self.GOAL, deeds), first)
        self.assertEqual(self.SHELF, ((3, 10, None, 7), ((0, 1, 2), (3,), ())))

    def test_bad_ways(self):
        good = (0, 0, "last")
        rows = [(None, 0, "form"), ((), 0, "form"), ((good,), 0, "form"), ("", 0, "form"),
                ([None], 0, "form"), ([[0, 0, "last"]], 0, "form"), ([good, (4, 0, "last")], 1, "form"),
                ([good, good, (0, 3, "last")], 2, "form"), ([(0, 0, "end")], 0, "form"),
                ([(False, 0, "last")], 0, "form"), ([(0, True, "last")], 0, "form"),
                ([(2, 0, "last")], 0, "fixed"), ([good, (2, 0, "last"), None], 1, "fixed"),
                ([good, (2, 0, "x"), (2, 0, "last")], 1, "form")]
        for deeds, number, why in rows:
            with self.subTest(deeds=deeds):
                with self.assertRaises(BadWay) as caught:
                    judged(self.SHELF, self.GOAL, deeds)
                self.assertEqual((caught.exception.number, caught.exception.why), (number, why))

    def test_what_is_handed_in_first_is_refused_first(self):
        for deeds in (None, [None], [(2, 0, "last")]):
            for goal in (None, (), ((0, 1, 2), (3,), (), ()), ((0, 1, 2), (), ())):
                with self.subTest(goal=goal, deeds=deeds):
                    with self.assertRaises(BadShelf) as caught:
                        judged(((3, 0), ((0, 1),)), goal, deeds)
                    self.assertEqual((caught.exception.part, caught.exception.number), (0, 1))
                    with self.assertRaises(BadGoal) as caught:
                        judged(self.SHELF, goal, deeds)
                    self.assertEqual(caught.exception.number, 3 if goal else 0)


class Spare(unittest.TestCase):
    def told(self, shelf, goal, books):
        with self.subTest(shelf=shelf, goal=goal):
            found = spare(shelf, goal)
            self.assertIs(type(found), list)
            self.assertEqual(found, books)

    def test_all_of_a_goal_that_stands(self):
        self.told(((3, 4, 5), ((2, 0), (1,))), ((2, 0), (1,)), [0, 1, 2])
        self.told(((3, None, 5), ((2, 0), (1,))), ((2, 0), (1,)), [0, 2])

    def test_books_that_must_move(self):
        self.told(((3, 4, 5), ((0, 1), (2,))), ((1,), (0, 2)), [1, 2])
        self.told(((3, 4), ((0,), (1,))), ((1,), (0,)), [])
        self.told(((3, 4, 5), ((0, 1, 2), ())), ((), (0, 1, 2)), [])

    def test_books_that_could_stay_only_at_a_greater_cost(self):
        self.told(((3, 4), ((0, 1),)), ((1, 0),), [1])
        self.told(((9, 2, 3), ((0, 1, 2),)), ((1, 2, 0),), [0])
        self.told(((4, 2, 3), ((0, 1, 2),)), ((1, 2, 0),), [1, 2])

    def test_books_of_which_each_could_stay_by_itself(self):
        self.told(((4, 4), ((0, 1),)), ((1, 0),), [0, 1])
        self.told(((5, 2, 3), ((0, 1, 2),)), ((1, 2, 0),), [0, 1, 2])
        self.told(((5, 5, 5), ((0, 1, 2),)), ((2, 1, 0),), [0, 1, 2])

    def test_rising_over_several_lots(self):
        self.told(((9, 9, 1, 9, 9), ((4, 2), (3, 0), (1,))), ((4,), (3, 2, 0), (1,)), [0, 1, 3, 4])
        self.told(((9, 8, 1, 9, 9), ((4, 1), (0, 3), (2,))), ((1, 4), (3, 0), (2,)), [0, 2, 3, 4])

    def test_fixed_books_are_never_told(self):
        self.told(((None, None), ((0,), (1,))), ((0,), (1,)), [])
        self.told(((None, 5, 7), ((1, 0, 2),)), ((0, 2, 1),), [2])
        self.told(((None, 5, 7), ((1, 0, 2),)), ((2, 0, 1),), [])

    def test_no_way(self):
        for shelf, goal in ((((None, 4), ((0,), (1,))), ((), (0, 1))),
                            (((None, 4), ((0,), (1,))), ((1,), (0,))),
                            (((None, None), ((0, 1),)), ((1, 0),)),
                            (((None, None, 4), ((0, 1), (2,))), ((0, 2, 1), ())),
                            (((4, None, None), ((0,), (2, 1))), ((0,), (1, 2)))):
            with self.subTest(shelf=shelf, goal=goal):
                with self.assertRaises(NoWay):
                    spare(shelf, goal)

    def test_against_the_words_of_the_point(self):
        for lots in (((2, 0, 3, 1),), ((0, 1), (2, 3))):
            for prices in product((2, 3, None), repeat=4):
                costs, _ = searched(prices, lots)
                fixed = {}
                for book in range(4):
                    if prices[book] is not None:
                        fixed[book] = searched(prices[:book] + (None,) + prices[book + 1:], lots)[0]
                for goal in costs:
                    self.told((prices, lots), goal, [book for book in fixed if
                                                     fixed[book].get(goal) == costs[goal]])

    def test_what_is_told_may_be_changed(self):
        shelf = ((4, 4, 4), ((0, 1), (2,)))
        first = spare(shelf, ((1, 0), (2,)))
        first.clear()
        first.append("x")
        self.assertEqual(spare(shelf, ((1, 0), (2,))), [0, 1, 2])
        self.assertEqual(spare(((4, 4), ((0,), (1,))), ((1,), (0,))), [])


if __name__ == "__main__":
    unittest.main()
