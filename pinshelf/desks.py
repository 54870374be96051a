"""A desk works on a shelf, deed by deed."""

from pinshelf.deeds import check_deeds, check_list, outcome, why_not
from pinshelf.errors import BadName, Halted, NoPoint, NoWay
from pinshelf.least import least
from pinshelf.shelves import check_shelf, is_number

LETTERS = "abcdefghijklmnopqrstuvwxyz"
MOST_LETTERS = 8


def is_name(name):
    if not isinstance(name, str) or not 1 <= len(name) <= MOST_LETTERS:
        return False
    return all([sign in LETTERS for sign in name])


class Work:
    """A work that stands: the lots ahead of it, what it cost, and the books it put."""

    def __init__(self, ahead, cost, books):
        self.ahead = ahead
        self.cost = cost
        self.books = books


class Desk:
    """A shelf, the works that led to it, and the points that were marked."""

    def __init__(self, shelf):
        check_shelf(shelf)
        self._prices, self._lots = shelf
        self._stack = []
        self._points = {}
        self._told = []
        self._idle = True

    def add_work(self, deeds):
        """Do deeds that can be done, as one work, and tell what they cost."""
        behind, cost = outcome(self.shelf(), deeds)
        self._stack.append(Work(self._lots, cost, [deed[0] for deed in deeds]))
        self._lots = behind
        return cost

    def put(self, deed):
        """Do a deed, and tell what it costs."""
        check_deeds(self.shelf(), [deed])
        return self.add_work([deed])

    def lay(self, goal):
        """Do a least way to a goal, and tell what it costs."""
        found = least(self.shelf(), goal)
        if found is None:
            raise NoWay()
        return self.add_work(found[1])

    def back(self, many):
        """Take so many works back and tell True, or tell False."""
        if not is_number(many) or not 1 <= many <= len(self._stack):
            return False
        kept = len(self._stack) - many
        self._lots = self._stack[kept].ahead
        del self._stack[kept:]
        return True

    def shelf(self):
        """Tell the shelf as it stands."""
        return self._prices, self._lots

    def spent(self):
        """Tell what all works that stand cost."""
        return sum(self.works())

    def taken(self):
        """Tell for each book how often it was put by works that stand."""
        counts = [0] * len(self._prices)
        for work in self._stack:
            for book in work.books:
                counts[book] += 1
        return counts

    def works(self):
        """Tell the costs of the works that stand, in turn."""
        return [work.cost for work in self._stack]

    def batch(self, deeds, *, keep=True):
        """Do a list of deeds, each a work, and tell what each cost."""
        check_list(deeds)
        self._told.append("begun")
        self._idle = False
        try:
            return self.do_each(deeds, keep)
        finally:
            self._idle = True
            self._told.append("ended")

    def do_each(self, deeds, keep):
        costs = []
        for number, deed in enumerate(deeds):
            if why_not(self.shelf(), deed) is not None:
                if keep is True:
                    raise Halted(number=number, done=number)
                self.back(number)
                raise Halted(number=number, done=0)
            costs.append(self.add_work([deed]))
        return costs

    def lines(self):
        """Tell "begun" and "ended" of each batch, in turn."""
        return list(self._told)

    def is_idle(self):
        """Tell whether no batch is under way."""
        return self._idle

    def mark(self, name):
        """Name where the desk stands, with its works."""
        if not is_name(name):
            raise BadName()
        self._points[name] = (self._lots, list(self._stack))

    def go(self, name):
        """Stand again where the name was marked."""
        # No point has such a name, and a list can't even be looked up.
        if not isinstance(name, str) or name not in self._points:
            raise NoPoint()
        self._lots, stack = self._points[name]
        self._stack = list(stack)

    def marks(self):
        """Tell the names of all points, rising."""
        return sorted(self._points)
