"""Points 11, 12 and 13: a desk, its batches, and its points."""

import unittest
from collections import Counter

from pinshelf.deeds import done
from pinshelf.desks import Desk
from pinshelf.errors import BadGoal, BadName, BadShelf, BadWay, Halted, NoPoint, NoWay, ShelfError
from pinshelf.least import least

# Book 2 is fixed; book 5 stands alone.
PRICES = (3, 10, None, 7, 1, 99)
LOTS = ((0, 1, 2), (3, 4), (5,), ())
SHELF = (PRICES, LOTS)
DEEDS = [(1, 1, "first"), (0, 3, "last"), (4, 0, "first"), (1, 3, "last")]
NO_NAMES = ("", "abcdefghi", "abcdefghijklmnop", "A", "aB", "Name", "a1", "7", "a b", " a", "a ", " ",
            "a-b", "a_b", "a.", "a\n", "\n", "-", "{", "`", None, 0, 1, True, False, (), ("a",), [], ["a"])
BAD_GOALS = ((None, 0), ([], 0), ((), 0), (LOTS[:3], 3), (LOTS + ((),), 4), (((0, 1, 2, 2),) + LOTS[1:], 0),
             (LOTS[:2] + ((True,), ()), 2), (((0, 1, 2), (3,), (5,), ()), 4))


def lots_behind(lots, deeds):
    """Tell the lots behind deeds, by point 4's words."""
    for book, lot, end in deeds:
        rows = [[other for other in row if other != book] for row in lots]
        rows[lot] = [book] + rows[lot] if end == "first" else rows[lot] + [book]
        lots = tuple(map(tuple, rows))
    return lots


def states(desk):
    """Tell all that a desk tells of itself."""
    return (desk.shelf(), desk.spent(), desk.taken(), desk.works(), desk.lines(), desk.is_idle(),
            desk.marks())


class DeskCase(unittest.TestCase):
    def stands(self, desk, lots, taken, works, prices=PRICES):
        found = desk.shelf()
        self.assertEqual(found, (prices, lots))
        self.assertEqual([type(part) for part in (found, *found, *found[1])], [tuple] * (3 + len(lots)))
        self.assertIs(type(desk.spent()), int)
        self.assertEqual(desk.spent(), sum(works))
        self.assertIs(type(desk.taken()), list)
        self.assertEqual(desk.taken(), taken)
        self.assertIs(type(desk.works()), list)
        self.assertEqual(desk.works(), works)
        self.assertIs(desk.is_idle(), True)

    def number(self, found, number):
        self.assertIs(type(found), int)
        self.assertEqual(found, number)

    def refused(self, desk, error, call, **values):
        """A call is refused with just these values, and changes nothing."""
        ahead = states(desk)
        with self.assertRaises(error) as caught:
            call()
        for name, value in values.items():
            self.assertEqual(getattr(caught.exception, name), value)
        self.assertEqual(states(desk), ahead)


class Works(DeskCase):
    def test_a_new_desk(self):
        desk = Desk(SHELF)
        self.stands(desk, LOTS, [0] * 6, [])
        self.assertEqual((desk.lines(), desk.marks()), ([], []))

    def test_a_desk_of_a_shelf_that_cannot_be(self):
        rows = [(None, -1, 0), ([PRICES, LOTS], -1, 0), ((PRICES, LOTS, ()), -1, 0), (((), LOTS), 0, 0),
                (((1, 100), ((0, 1),)), 0, 1), (((1,) * 13, (tuple(range(13)),)), 0, 12),
                (((1, 2), ((0,), (0,))), 1, 1), (((1,), ((0,),) + ((),) * 5), 1, 5),
                (((1, 2, 3), ((2,), (0,))), 2, 1)]
        for shelf, part, number in rows:
            with self.subTest(shelf=shelf):
                with self.assertRaises(BadShelf) as caught:
                    Desk(shelf)
                self.assertEqual((caught.exception.part, caught.exception.number), (part, number))

    def test_deeds_in_turn(self):
        desk = Desk(SHELF)
        self.number(desk.put((1, 1, "first")), 10)
        self.stands(desk, ((0, 2), (1, 3, 4), (5,), ()), [0, 1, 0, 0, 0, 0], [10])
        self.number(desk.put((0, 3, "last")), 3)
        self.stands(desk, ((2,), (1, 3, 4), (5,), (0,)), [1, 1, 0, 0, 0, 0], [10, 3])
        self.number(desk.put((5, 3, "first")), 99)
        self.stands(desk, ((2,), (1, 3, 4), (), (5, 0)), [1, 1, 0, 0, 0, 1], [10, 3, 99])
        self.number(desk.put((1, 1, "first")), 10)
        self.stands(desk, ((2,), (1, 3, 4), (), (5, 0)), [1, 2, 0, 0, 0, 1], [10, 3, 99, 10])

    def test_deeds_that_cannot_be(self):
        for ahead in (0, 2):
            desk = Desk(SHELF)
            for deed in DEEDS[:ahead]:
                desk.put(deed)
            for deed in (None, 0, "", [0, 1, "first"], (), (0, 1), (0, 1, "first", 0), (6, 1, "last"),
                         (-1, 1, "last"), (True, 1, "last"), (0, 4, "last"), (0, -1, "last"),
                         (0, False, "last"), (0, 1, "end"), (0, 1, None), (2, 4, "last"), [(0, 1, "last")]):
                with self.subTest(deed=deed):
                    self.refused(desk, BadWay, lambda: desk.put(deed), number=0, why="form")
            for deed in ((2, 0, "first"), (2, 3, "last")):
                with self.subTest(deed=deed):
                    self.refused(desk, BadWay, lambda: desk.put(deed), number=0, why="fixed")

    def test_lays(self):
        desk = Desk(SHELF)
        goal = ((2, 0), (3, 1, 4), (), (5,))
        self.number(desk.lay(goal), 113)
        self.stands(desk, goal, [1, 1, 0, 0, 1, 1], [113])
        # Books 3 and 4 stay, as nothing need stand between them any more.
        self.number(desk.lay(LOTS), 112)
        self.stands(desk, LOTS, [2, 2, 0, 0, 1, 2], [113, 112])

    def test_a_lay_is_done_by_the_way_that_least_tells(self):
        shelf = ((5, 5, 5, 10), ((0, 1, 2, 3),))
        for goal in (((2, 1, 0, 3),), ((3, 2, 1, 0),), ((3, 0, 1, 2),), ((1, 2, 3, 0),), ((2, 3, 0, 1),)):
            with self.subTest(goal=goal):
                desk = Desk(shelf)
                desk.put((1, 0, "last"))
                cost, way = least(desk.shelf(), goal)
                counts = Counter(deed[0] for deed in [(1, 0, "last"), *way])
                self.number(desk.lay(goal), cost)
                self.stands(desk, goal, [counts[book] for book in range(4)], [5, cost], shelf[0])

    def test_a_lay_that_costs_nothing_is_a_work_too(self):
        desk = Desk(SHELF)
        self.number(desk.lay(LOTS), 0)
        self.stands(desk, LOTS, [0] * 6, [0])
        desk.put((3, 1, "last"))
        self.number(desk.lay(((0, 1, 2), (4, 3), (5,), ())), 0)
        self.stands(desk, ((0, 1, 2), (4, 3), (5,), ()), [0, 0, 0, 1, 0, 0], [0, 7, 0])
        self.assertIs(desk.back(1), True)
        self.stands(desk, ((0, 1, 2), (4, 3), (5,), ()), [0, 0, 0, 1, 0, 0], [0, 7])
        self.assertIs(desk.back(2), True)
        self.stands(desk, LOTS, [0] * 6, [])

    def test_deeds_and_lays_in_turn(self):
        desk = Desk(SHELF)
        desk.put((0, 1, "last"))
        self.number(desk.lay(((1, 2), (3, 4), (5,), (0,))), 3)
        self.number(desk.put((0, 0, "first")), 3)
        self.number(desk.lay(((0, 1, 2), (3, 4, 5), (), ())), 99)
        self.stands(desk, ((0, 1, 2), (3, 4, 5), (), ()), [3, 0, 0, 0, 0, 1], [3, 3, 3, 99])

    def test_goals_that_cannot_be(self):
        for ahead in (0, 2):
            desk = Desk(SHELF)
            for deed in DEEDS[:ahead]:
                desk.put(deed)
            for goal, number in BAD_GOALS:
                with self.subTest(goal=goal):
                    self.refused(desk, BadGoal, lambda: desk.lay(goal), number=number)

    def test_goals_that_cannot_be_come_to(self):
        desk = Desk(SHELF)
        desk.put((1, 1, "first"))
        for goal in (((0, 1), (3, 4, 2), (5,), ()), ((), (), (), (0, 1, 2, 3, 4, 5))):
            self.refused(desk, NoWay, lambda: desk.lay(goal))
        desk = Desk(((None, None, 4), ((0, 1), (2,))))
        for goal in (((1, 0), (2,)), ((0, 2, 1), ())):
            self.refused(desk, NoWay, lambda: desk.lay(goal))

    def test_back(self):
        desk = Desk(SHELF)
        for deed in DEEDS:
            desk.put(deed)
        self.assertIs(desk.back(1), True)
        self.stands(desk, ((4, 2), (1, 3), (5,), (0,)), [1, 1, 0, 0, 1, 0], [10, 3, 1])
        self.assertIs(desk.back(2), True)
        self.stands(desk, ((0, 2), (1, 3, 4), (5,), ()), [0, 1, 0, 0, 0, 0], [10])
        desk.lay(((2, 0), (3, 4), (5, 1), ()))
        self.assertEqual(desk.works(), [10, 13])
        self.assertIs(desk.back(1), True)
        self.stands(desk, ((0, 2), (1, 3, 4), (5,), ()), [0, 1, 0, 0, 0, 0], [10])
        self.assertIs(desk.back(1), True)
        self.stands(desk, LOTS, [0] * 6, [])

    def test_back_all_of_them(self):
        desk = Desk(SHELF)
        for deed in DEEDS:
            desk.put(deed)
        desk.lay(LOTS)
        self.assertIs(desk.back(5), True)
        self.stands(desk, LOTS, [0] * 6, [])
        self.assertIs(desk.back(1), False)
        desk.put((4, 3, "last"))
        self.stands(desk, ((0, 1, 2), (3,), (5,), (4,)), [0, 0, 0, 0, 1, 0], [1])

    def test_back_of_what_cannot_be_taken_back(self):
        desk = Desk(SHELF)
        for many in (1, 2, 0, -1, True):
            self.assertIs(desk.back(many), False)
        for deed in DEEDS:
            desk.put(deed)
        ahead = states(desk)
        for many in (0, -1, -4, True, False, 5, 6, 100, None, "1", ""):
            with self.subTest(many=many):
                self.assertIs(desk.back(many), False)
                self.assertEqual(states(desk), ahead)

    def test_a_fixed_book_is_never_taken(self):
        desk = Desk(SHELF)
        desk.lay(((1, 2, 0), (4, 3), (), (5,)))
        self.assertEqual(desk.taken()[2], 0)
        self.assertEqual(desk.shelf()[0], PRICES)

    def test_twelve_books_and_five_lots(self):
        books = tuple(range(12))
        desk = Desk(((99,) * 12, (books, (), (), (), ())))
        self.number(desk.lay(((), (), (), (), books)), 1188)
        self.number(desk.put((0, 0, "last")), 99)
        self.stands(desk, ((0,), (), (), (), books[1:]), [2] + [1] * 11, [1188, 99], (99,) * 12)


class Batches(DeskCase):
    def test_a_batch_that_is_done(self):
        for keep in ({}, {"keep": True}, {"keep": False}):
            with self.subTest(keep):
                desk = Desk(SHELF)
                found = desk.batch(list(DEEDS), **keep)
                self.assertIs(type(found), list)
                self.assertEqual(found, [10, 3, 1, 10])
                self.stands(desk, ((4, 2), (3,), (5,), (0, 1)), [1, 2, 0, 0, 1, 0], [10, 3, 1, 10])
                self.assertEqual(desk.lines(), ["begun", "ended"])

    def test_each_deed_is_a_work(self):
        desk = Desk(SHELF)
        desk.put((5, 3, "last"))
        desk.batch(DEEDS[:2])
        self.assertEqual(desk.works(), [99, 10, 3])
        self.assertIs(desk.back(1), True)
        self.stands(desk, ((0, 2), (1, 3, 4), (), (5,)), [0, 1, 0, 0, 0, 1], [99, 10])
        self.assertIs(desk.back(2), True)
        self.stands(desk, LOTS, [0] * 6, [])

    def test_an_empty_batch(self):
        for keep in (True, False):
            desk = Desk(SHELF)
            desk.put((5, 3, "last"))
            found = desk.batch([], keep=keep)
            self.assertIs(type(found), list)
            self.assertEqual(found, [])
            self.assertEqual((desk.works(), desk.lines()), ([99], ["begun", "ended"]))
            self.assertIs(desk.is_idle(), True)

    def test_no_list(self):
        desk = Desk(SHELF)
        desk.batch(DEEDS[:1])
        for deeds in (None, 0, True, "", "deeds", (), tuple(DEEDS), DEEDS[0]):
            for keep in (True, False):
                with self.subTest(deeds=deeds, keep=keep):
                    self.refused(desk, BadWay, lambda: desk.batch(deeds, keep=keep), number=0, why="form")
        self.assertEqual(desk.lines(), ["begun", "ended"])

    def halted(self, deeds, number, keep, done_deeds):
        desk = Desk(SHELF)
        desk.put((3, 3, "first"))
        desk.lay(((1, 0, 2), (4,), (5,), (3,)))
        ahead, works, counts = desk.shelf()[1], desk.works(), desk.taken()
        with self.assertRaises(Halted) as caught:
            desk.batch(deeds, **keep)
        self.assertEqual(caught.exception.number, number)
        self.assertEqual(caught.exception.done, len(done_deeds))
        self.assertIs(type(caught.exception.done), int)
        for deed in done_deeds:
            counts[deed[0]] += 1
        self.stands(desk, lots_behind(ahead, done_deeds), counts,
                    works + [PRICES[deed[0]] for deed in done_deeds])
        self.assertEqual(desk.lines(), ["begun", "ended"])
        self.assertEqual(desk.marks(), [])
        # What stands can be taken back, deed by deed, and no more.
        self.assertIs(desk.back(len(works) + len(done_deeds) + 1), False)
        if done_deeds:
            self.assertIs(desk.back(len(done_deeds)), True)
        self.assertEqual((desk.shelf()[1], desk.works()), (ahead, works))

    def test_halted(self):
        for bad in ((2, 0, "first"), (0, 4, "last"), (0, 0, "middle"), None, [0, 1, "first"], (6, 0, "last"),
                    (True, 0, "last")):
            for at in range(len(DEEDS) + 1):
                deeds = DEEDS[:at] + [bad] + DEEDS[at:]
                with self.subTest(deeds=deeds):
                    self.halted(deeds, at, {}, DEEDS[:at])
                    self.halted(deeds, at, {"keep": True}, DEEDS[:at])
                    self.halted(deeds, at, {"keep": False}, [])

    def test_halted_at_the_first_of_several(self):
        deeds = [DEEDS[0], None, DEEDS[1], (2, 0, "first")]
        self.halted(deeds, 1, {"keep": True}, DEEDS[:1])
        self.halted(deeds, 1, {"keep": False}, [])

    def test_halted_on_a_new_desk_nothing_is_left_behind(self):
        desk = Desk(SHELF)
        with self.assertRaises(Halted):
            desk.batch(DEEDS + [(2, 1, "last")], keep=False)
        self.stands(desk, LOTS, [0] * 6, [])

    def test_lines_behind_several_batches(self):
        desk = Desk(SHELF)
        told = []
        for deeds, keep in ((DEEDS, True), ([], False), ([None], True), (DEEDS + [None], False), (DEEDS, False)):
            try:
                desk.batch(deeds, keep=keep)
            except Halted:
                pass
            told += ["begun", "ended"]
            self.assertIs(type(desk.lines()), list)
            self.assertEqual(desk.lines(), told)
            self.assertIs(desk.is_idle(), True)
        self.assertEqual(desk.works(), [10, 3, 1, 10, 10, 3, 1, 10])

    def test_lines_stay_behind_back_and_go(self):
        desk = Desk(SHELF)
        desk.mark("a")
        desk.batch(DEEDS)
        desk.back(4)
        self.assertEqual(desk.lines(), ["begun", "ended"])
        desk.mark("b")
        desk.batch(DEEDS[:1])
        desk.go("a")
        self.assertEqual(desk.lines(), ["begun", "ended"] * 2)
        desk.go("b")
        self.assertEqual(desk.lines(), ["begun", "ended"] * 2)
        desk.batch([])
        self.assertEqual(desk.lines(), ["begun", "ended"] * 3)

    def test_only_batches_have_lines(self):
        desk = Desk(SHELF)
        desk.put(DEEDS[0])
        desk.lay(LOTS)
        desk.mark("a")
        desk.back(1)
        desk.go("a")
        self.assertEqual(desk.lines(), [])

    def test_it_is_idle_behind_each(self):
        desk = Desk(SHELF)
        for call in (lambda: desk.put(DEEDS[0]), lambda: desk.put(None), lambda: desk.lay(LOTS),
                     lambda: desk.lay(()), lambda: desk.batch(DEEDS), lambda: desk.batch([None]),
                     lambda: desk.batch([DEEDS[0], None], keep=False), lambda: desk.batch(None),
                     lambda: desk.back(1), lambda: desk.mark("a"), lambda: desk.go("a")):
            try:
                call()
            except ShelfError:
                pass
            self.assertIs(desk.is_idle(), True)


class Points(DeskCase):
    def test_names(self):
        desk = Desk(SHELF)
        names = ["a", "z", "ab", "abc", "abcdefgh", "zzzzzzzz", "hijklmno", "pqrstuvw", "xyz"]
        for name in names:
            self.assertIsNone(desk.mark(name))
        self.assertIs(type(desk.marks()), list)
        self.assertEqual(desk.marks(), sorted(names))
        for name in names:
            self.assertIsNone(desk.go(name))
        self.stands(desk, LOTS, [0] * 6, [])

    def test_names_that_cannot_be(self):
        desk = Desk(SHELF)
        desk.mark("a")
        for name in NO_NAMES:
            with self.subTest(name=name):
                self.refused(desk, BadName, lambda: desk.mark(name))

    def test_marks_rising(self):
        desk = Desk(SHELF)
        told = []
        for name in ("m", "b", "zz", "a", "ba", "z", "aa", "b", "m"):
            desk.mark(name)
            told = sorted({*told, name})
            self.assertEqual(desk.marks(), told)

    def test_go_to_a_point_behind_further_works(self):
        desk = Desk(SHELF)
        desk.put(DEEDS[0])
        desk.mark("here")
        desk.put(DEEDS[1])
        desk.lay(LOTS)
        self.assertIsNone(desk.go("here"))
        self.stands(desk, ((0, 2), (1, 3, 4), (5,), ()), [0, 1, 0, 0, 0, 0], [10])
        self.assertEqual(desk.marks(), ["here"])

    def test_go_to_a_point_whose_works_were_taken_back(self):
        desk = Desk(SHELF)
        desk.batch(DEEDS)
        desk.mark("here")
        desk.back(4)
        desk.put((5, 3, "first"))
        desk.go("here")
        self.stands(desk, ((4, 2), (3,), (5,), (0, 1)), [1, 2, 0, 0, 1, 0], [10, 3, 1, 10])

    def test_back_behind_a_go(self):
        desk = Desk(SHELF)
        desk.put(DEEDS[0])
        desk.put(DEEDS[1])
        desk.mark("two")
        desk.put(DEEDS[2])
        desk.put(DEEDS[3])
        desk.go("two")
        self.assertIs(desk.back(3), False)
        self.assertIs(desk.back(1), True)
        self.stands(desk, ((0, 2), (1, 3, 4), (5,), ()), [0, 1, 0, 0, 0, 0], [10])
        self.assertIs(desk.back(1), True)
        self.stands(desk, LOTS, [0] * 6, [])

    def test_a_point_stays_where_it_was_marked(self):
        desk = Desk(SHELF)
        desk.put(DEEDS[0])
        desk.mark("one")
        for _ in range(2):
            desk.back(1)
            desk.put((5, 3, "first"))
            desk.put((4, 3, "first"))
            desk.go("one")
            self.stands(desk, ((0, 2), (1, 3, 4), (5,), ()), [0, 1, 0, 0, 0, 0], [10])
            desk.put((5, 3, "first"))
            desk.go("one")
            self.stands(desk, ((0, 2), (1, 3, 4), (5,), ()), [0, 1, 0, 0, 0, 0], [10])
            desk.back(1)
            desk.go("one")
            self.stands(desk, ((0, 2), (1, 3, 4), (5,), ()), [0, 1, 0, 0, 0, 0], [10])

    def test_marked_anew(self):
        desk = Desk(SHELF)
        desk.mark("a")
        desk.put(DEEDS[0])
        desk.mark("a")
        self.assertEqual(desk.marks(), ["a"])
        desk.put(DEEDS[1])
        desk.go("a")
        self.stands(desk, ((0, 2), (1, 3, 4), (5,), ()), [0, 1, 0, 0, 0, 0], [10])
        desk.back(1)
        desk.mark("a")
        desk.put(DEEDS[1])
        desk.go("a")
        self.stands(desk, LOTS, [0] * 6, [])

    def test_from_point_to_point(self):
        desk = Desk(SHELF)
        desk.mark("start")
        desk.put(DEEDS[0])
        desk.mark("one")
        desk.go("start")
        self.stands(desk, LOTS, [0] * 6, [])
        desk.lay(((0, 1, 2), (4, 3), (5,), ()))
        desk.mark("laid")
        desk.go("one")
        self.stands(desk, ((0, 2), (1, 3, 4), (5,), ()), [0, 1, 0, 0, 0, 0], [10])
        desk.go("laid")
        self.stands(desk, ((0, 1, 2), (4, 3), (5,), ()), [0, 0, 0, 0, 1, 0], [1])
        self.assertEqual(desk.marks(), ["laid", "one", "start"])

    def test_a_halted_batch_leaves_points(self):
        desk = Desk(SHELF)
        desk.put(DEEDS[0])
        desk.mark("one")
        with self.assertRaises(Halted):
            desk.batch([DEEDS[1], None], keep=False)
        self.assertEqual(desk.marks(), ["one"])
        desk.go("one")
        self.stands(desk, ((0, 2), (1, 3, 4), (5,), ()), [0, 1, 0, 0, 0, 0], [10])

    def test_no_point(self):
        desk = Desk(SHELF)
        for name in ("a", "here", *NO_NAMES):
            with self.subTest(name=name):
                self.refused(desk, NoPoint, lambda: desk.go(name))
        desk.put(DEEDS[0])
        desk.mark("here")
        for name in ("a", "her", "heree", "Here", " here", *NO_NAMES):
            with self.subTest(name=name):
                self.refused(desk, NoPoint, lambda: desk.go(name))


class Apart(DeskCase):
    def test_two_desks_of_one_shelf(self):
        one, other = Desk(SHELF), Desk(SHELF)
        fresh = states(other)
        one.put(DEEDS[0])
        one.batch(DEEDS)
        one.mark("a")
        one.lay(LOTS)
        self.assertEqual(states(other), fresh)
        self.refused(other, NoPoint, lambda: other.go("a"))
        ahead = states(one)
        other.put((5, 3, "last"))
        other.mark("b")
        other.batch([])
        self.assertEqual(states(one), ahead)
        self.assertEqual(other.marks(), ["b"])
        self.assertEqual(SHELF, ((3, 10, None, 7, 1, 99), ((0, 1, 2), (3, 4), (5,), ())))

    def test_a_desk_of_what_another_one_tells(self):
        one = Desk(SHELF)
        one.put(DEEDS[0])
        other = Desk(one.shelf())
        self.stands(other, ((0, 2), (1, 3, 4), (5,), ()), [0] * 6, [])
        other.put(DEEDS[1])
        self.stands(one, ((0, 2), (1, 3, 4), (5,), ()), [0, 1, 0, 0, 0, 0], [10])

    def test_what_is_told_may_be_changed(self):
        desk = Desk(SHELF)
        told = desk.batch(DEEDS)
        desk.mark("a")
        ahead = states(desk)
        told.append(7)
        for call in (desk.taken, desk.works, desk.lines, desk.marks):
            with self.subTest(call.__name__):
                first = call()
                kept = list(first)
                first.append("x")
                self.assertEqual(call(), kept)
                first.clear()
                self.assertEqual(call(), kept)
                self.assertEqual(states(desk), ahead)
        desk.back(1)
        desk.go("a")
        self.assertEqual(states(desk), ahead)

    def test_a_list_that_was_handed_in_may_be_changed(self):
        desk = Desk(SHELF)
        deeds = list(DEEDS)
        desk.batch(deeds)
        self.assertEqual(deeds, DEEDS)
        ahead = states(desk)
        deeds.clear()
        deeds.append("x")
        self.assertEqual(states(desk), ahead)
        deeds = [DEEDS[0], None, DEEDS[1]]
        with self.assertRaises(Halted):
            desk.batch(deeds)
        self.assertEqual(deeds, [DEEDS[0], None, DEEDS[1]])

    def test_asked_again_the_same_is_told(self):
        desk = Desk(SHELF)
        desk.batch(DEEDS)
        desk.mark("a")
        self.assertEqual(states(desk), states(desk))
        shelf = desk.shelf()
        done(shelf, [(5, 3, "last")])
        self.assertEqual(desk.shelf(), shelf)


class Long(DeskCase):
    def test_many_works_against_a_list_of_them(self):
        """Each work is kept as (lots ahead, cost, books), as the point's words tell."""
        desk = Desk(SHELF)
        lots, works, points = LOTS, [], {}
        goals = [LOTS, ((2,), (4, 3), (), (5, 1, 0)), ((5, 2, 4), (), (1, 0), (3,)), ((0, 1, 2, 3, 4, 5), (), (), ())]
        seed = 1
        for _ in range(600):
            seed = (seed * 1103515245 + 12345) & 0x7fffffff
            what, pick = (seed >> 8) & 7, seed >> 12
            if what < 3:
                deed = ((0, 1, 3, 4, 5)[pick % 5], pick // 5 % 4, ("first", "last")[pick // 20 % 2])
                self.number(desk.put(deed), PRICES[deed[0]])
                works.append((lots, PRICES[deed[0]], [deed[0]]))
                lots = lots_behind(lots, [deed])
            elif what < 5:
                goal = goals[pick & 3]
                cost, way = least((PRICES, lots), goal)
                self.number(desk.lay(goal), cost)
                works.append((lots, cost, [deed[0] for deed in way]))
                lots = goal
            elif what == 5:
                many = pick % 4
                told = 1 <= many <= len(works)
                self.assertIs(desk.back(many), told)
                if told:
                    lots = works[-many][0]
                    del works[-many:]
            elif what == 6:
                points["abc"[pick % 3]] = (lots, list(works))
                desk.mark("abc"[pick % 3])
            elif "abc"[pick % 3] in points:
                desk.go("abc"[pick % 3])
                lots, works = points["abc"[pick % 3]][0], list(points["abc"[pick % 3]][1])
            counts = Counter(book for work in works for book in work[2])
            self.stands(desk, lots, [counts[book] for book in range(6)], [work[1] for work in works])
            self.assertEqual(desk.marks(), sorted(points))


if __name__ == "__main__":
    unittest.main()
