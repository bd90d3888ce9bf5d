"""Yards: a heap that is led deed by deed."""

from webreckon.errors import NothingToUndo
from webreckon.heaps import check_not_below
from webreckon.heaps import check_not_too_great
from webreckon.heaps import check_whole
from webreckon.heaps import heap_behind
from webreckon.lasting import settle
from webreckon.limits import MOST_HEAP
from webreckon.shapes import check_heap
from webreckon.shapes import check_number
from webreckon.shapes import check_place
from webreckon.webs import check_web


def only_at(web, place, number):
    """The number at the place, 0 at all others."""
    return [number if other == place else 0 for other in web.places]


class KeptYard:
    """What a yard was like when a trial began, and what was kept before."""

    def __init__(self, yard, before):
        self.heap = yard.heap
        self.log = yard.log
        self.changes = yard.changes
        self.past = yard.past
        self.before = before


class YardTrial:
    """Behind the rows of a with the yard is as it was at their beginning; it may be entered again and again."""

    def __init__(self, yard):
        self.yard = yard
        self.kept = None

    def __enter__(self):
        self.kept = KeptYard(self.yard, self.kept)
        return self.yard

    def __exit__(self, kind, value, trace):
        self.yard.heap = self.kept.heap
        self.yard.log = self.kept.log
        self.yard.changes = self.kept.changes
        self.yard.past = self.kept.past
        self.kept = self.kept.before


class Yard:
    """A heap of a whole web without loops, and the deeds that led to it."""

    def __init__(self, web, heap):
        check_web(web)
        check_heap(web, heap)
        check_whole(web)
        self.web = web
        self.heap = heap
        self.log = ()
        self.changes = 0
        # The heaps ahead of each deed of the log.
        self.past = ()

    def lead_to(self, heap, deed):
        """Makes this heap of the one now, by this deed."""
        check_not_too_great(heap)
        self.past = self.past + (self.heap,)
        self.heap = heap
        self.log = self.log + (deed,)
        self.changes = len(self.log)

    def give(self, place):
        """The place gives once."""
        check_place(self.web, place)
        self.lead_to(heap_behind(self.web, self.heap, only_at(self.web, place, 1)), ("give", place))

    def take(self, place):
        """The place gives once, the other way round."""
        check_place(self.web, place)
        self.lead_to(heap_behind(self.web, self.heap, only_at(self.web, place, -1)), ("take", place))

    def settle(self, bank):
        """The heap settles into the bank."""
        check_place(self.web, bank)
        check_not_below(self.web, self.heap, bank)
        self.lead_to(settle(self.web, self.heap, bank)[0], ("settle", bank))

    def put(self, place, number):
        """The place has this number more."""
        check_place(self.web, place)
        check_number(number, -MOST_HEAP, MOST_HEAP)
        more = only_at(self.web, place, number)
        self.lead_to(tuple([one + other for one, other in zip(self.heap, more)]), ("put", place, number))

    def undo(self):
        """Takes back the last deed."""
        if not self.log:
            raise NothingToUndo()
        self.heap = self.past[-1]
        self.past = self.past[:-1]
        self.log = self.log[:-1]
        self.changes = len(self.log)

    def trial(self):
        """For a with: what its rows do is taken back behind them."""
        return YardTrial(self)

    def tried(self, act):
        """What act makes of the yard, within a trial."""
        with self.trial() as held:
            return act(held)
