"""Boards: a leaning that is led deed by deed, each deed turning some lot."""

from webreckon.errors import Busy
from webreckon.errors import InvalidDeeds
from webreckon.errors import NothingToUndo
from webreckon.errors import Refused
from webreckon.leanings import check_web_and_leaning
from webreckon.leanings import is_ring_of_arrows
from webreckon.leanings import leads_out
from webreckon.leanings import turned_by
from webreckon.limits import MOST_TIES
from webreckon.lots import crossing
from webreckon.shapes import NOWHERE
from webreckon.shapes import is_herd
from webreckon.shapes import is_integer_from
from webreckon.shapes import where_no_lot


def is_deed(web, value):
    """Whether it has the shape of a deed, whatever the leaning is."""
    if not isinstance(value, tuple) or len(value) != 2 or not isinstance(value[0], str):
        return False
    word, told = value
    if word == "flip":
        return is_integer_from(told, 0, len(web.ties) - 1)
    if word == "ring":
        return where_no_lot(web, told, MOST_TIES) == NOWHERE
    return word == "cut" and is_herd(web, told)


def can_be_done(web, leaning, deed):
    word, told = deed
    if word == "ring":
        return is_ring_of_arrows(web, leaning, told)
    return word == "flip" or leads_out(web, leaning, told)


def lot_of_deed(web, deed):
    """The lot that the deed turns; turning it once more takes the deed back."""
    word, told = deed
    if word == "flip":
        return (told,)
    return told if word == "ring" else crossing(web, told)


class KeptBoard:
    """What a board was like when a trial began, and what was kept before."""

    def __init__(self, board, before):
        self.leaning = board.leaning
        self.log = board.log
        self.before = before


class BoardTrial:
    """Behind the rows of a with the board is as it was at their beginning; it may be entered again and again."""

    def __init__(self, board):
        self.board = board
        self.kept = None

    def __enter__(self):
        self.kept = KeptBoard(self.board, self.kept)
        return self.board

    def __exit__(self, kind, value, trace):
        self.board.leaning = self.kept.leaning
        self.board.log = self.kept.log
        self.kept = self.kept.before


class Board:
    """A leaning of a web, and the deeds that led to it."""

    def __init__(self, web, leaning):
        check_web_and_leaning(web, leaning)
        self.web = web
        self.leaning = leaning
        self.log = ()
        self.busy = False

    def __len__(self):
        return len(self.log)

    def check_idle(self):
        if self.busy:
            raise Busy()

    def do_next(self, deed, index):
        """Does the deed that has this index among those that were passed."""
        if not is_deed(self.web, deed):
            raise InvalidDeeds(index)
        if not can_be_done(self.web, self.leaning, deed):
            raise Refused(deed)
        self.leaning = turned_by(self.leaning, lot_of_deed(self.web, deed))
        self.log = self.log + (deed,)

    def do(self, deed):
        """Does one deed."""
        self.check_idle()
        self.do_next(deed, 0)

    def do_all(self, deeds, *, watch=None):
        """Does all deeds or none, and tells the watch of each."""
        self.check_idle()
        if not isinstance(deeds, tuple):
            raise InvalidDeeds(None)
        leaning = self.leaning
        log = self.log
        self.busy = True
        try:
            for at, deed in enumerate(deeds):
                self.do_next(deed, at)
                if watch is not None:
                    watch(self, at)
            leaning = self.leaning
            log = self.log
        finally:
            self.leaning = leaning
            self.log = log
            self.busy = False

    def undo(self):
        """Takes back the last deed."""
        self.check_idle()
        if not self.log:
            raise NothingToUndo()
        self.leaning = turned_by(self.leaning, lot_of_deed(self.web, self.log[-1]))
        self.log = self.log[:-1]

    def trial(self):
        """For a with: what its rows do is taken back behind them."""
        self.check_idle()
        return BoardTrial(self)


def attempt(board, act):
    """What act makes of the board, within a trial."""
    with board.trial() as held:
        return act(held)
