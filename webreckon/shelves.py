"""Shelves: webs under names, and wishes about them that hold after each change."""

from webreckon.dyes import number_of_dyes
from webreckon.errors import Broken
from webreckon.errors import InUse
from webreckon.errors import InvalidIndex
from webreckon.errors import InvalidName
from webreckon.errors import InvalidWish
from webreckon.errors import NothingToUndo
from webreckon.errors import UnknownName
from webreckon.likeness import are_like
from webreckon.pulls import pull
from webreckon.shapes import LETTERS
from webreckon.shapes import is_fraction
from webreckon.shapes import is_integer_from
from webreckon.table import numbers_of
from webreckon.ways import joined_by
from webreckon.webs import check_web
from webreckon.webs import cut
from webreckon.webs import is_whole
from webreckon.webs import shut

LETTERS_OF_NAMES = "abcdefghijklmnopqrstuvwxyz"
MOST_NAME = 8
MOST_WISHED = 1000
# For each word of a wish how many elements the wish has.
SIZES = {"whole": 2, "trees": 3, "ringless": 3, "dyed": 3, "pull": 5, "joined": 3, "like": 3, "unlike": 3}
WORDS_OF_TWO_WEBS = ("like", "unlike")


def is_name(value):
    if not isinstance(value, str) or not 1 <= len(value) <= MOST_NAME:
        return False
    return all([letter in LETTERS_OF_NAMES for letter in value])


def is_letter(value):
    return isinstance(value, str) and len(value) == 1 and value in LETTERS


def is_wish(value):
    """Whether it has the shape of a wish, whatever stands where the names are told."""
    if not isinstance(value, tuple) or not value or not isinstance(value[0], str):
        return False
    if len(value) != SIZES.get(value[0], 0):
        return False
    if value[0] == "pull":
        return is_letter(value[2]) and is_letter(value[3]) and is_fraction(value[4])
    if value[0] == "dyed":
        return is_integer_from(value[2], 1, MOST_WISHED)
    if value[0] in ("trees", "ringless", "joined"):
        return is_integer_from(value[2], 0, MOST_WISHED)
    return True


def names_of(wish):
    """What stands where the wish tells names."""
    return wish[1:] if wish[0] in WORDS_OF_TWO_WEBS else wish[1:2]


def has_pull(web, place, other_place, most):
    """Whether there is a pull between both, which may be no places of the web, and it is at most this."""
    if place not in web.places or other_place not in web.places:
        return False
    told = pull(web, place, other_place)
    return told is not None and told[0] * most[1] <= most[0] * told[1]


def is_joined(web, number):
    told = joined_by(web)
    return told is not None and told >= number


def holds_of(web, wish):
    """Whether a wish about this web alone holds."""
    if wish[0] == "whole":
        return is_whole(web)
    if wish[0] == "dyed":
        return number_of_dyes(web, wish[2]) > 0
    if wish[0] == "pull":
        return has_pull(web, wish[2], wish[3], wish[4])
    if wish[0] == "joined":
        return is_joined(web, wish[2])
    return numbers_of(web)[wish[0]] >= wish[2]


def holds(webs, wish):
    """Whether the wish holds; a dict tells the web of each name."""
    if not all([is_name(name) and name in webs for name in names_of(wish)]):
        return False
    web = webs[wish[1]]
    if wish[0] in WORDS_OF_TWO_WEBS:
        return are_like(web, webs[wish[2]]) == (wish[0] == "like")
    return holds_of(web, wish)


class KeptShelf:
    """What a shelf was like when a trial began, and what was kept before."""

    def __init__(self, shelf, before):
        self.webs = shelf.webs
        self.names = shelf.names
        self.wishes = shelf.wishes
        self.changes = shelf.changes
        self.past = shelf.past
        self.before = before


class ShelfTrial:
    """Behind the rows of a with the shelf is as it was at their beginning; it may be entered again and again."""

    def __init__(self, shelf):
        self.shelf = shelf
        self.kept = None

    def __enter__(self):
        self.kept = KeptShelf(self.shelf, self.kept)
        return self.shelf

    def __exit__(self, kind, value, trace):
        self.shelf.webs = self.kept.webs
        self.shelf.names = self.kept.names
        self.shelf.wishes = self.kept.wishes
        self.shelf.changes = self.kept.changes
        self.shelf.past = self.kept.past
        self.kept = self.kept.before


class Shelf:
    """Webs under names, and wishes, which always hold."""

    def __init__(self):
        # No dict that was ever here is altered: past and trials go on holding them.
        self.webs = {}
        self.names = ()
        self.wishes = ()
        self.changes = 0
        self.past = ()

    def __len__(self):
        return len(self.names)

    def __contains__(self, x):
        return isinstance(x, str) and x in self.webs

    def __getitem__(self, at):
        if at not in self:
            raise UnknownName(at)
        return self.webs[at]

    def __iter__(self):
        raise TypeError("a shelf is not gone through: its names are")

    def __setitem__(self, at, worth):
        if not is_name(at):
            raise InvalidName(at)
        check_web(worth)
        self.store(at, worth)

    def check_name(self, name):
        if name not in self:
            raise UnknownName(name)

    def show(self, webs, wishes):
        self.webs = webs
        self.names = tuple(sorted(webs))
        self.wishes = wishes
        self.changes = len(self.past)

    def lead_to(self, webs, wishes):
        """Makes these of what is there, which can be taken back."""
        self.past = self.past + ((self.webs, self.wishes),)
        self.show(webs, wishes)

    def store(self, name, web):
        """Puts the web under the name if the wishes that have this name hold then, as the others do anyway."""
        webs = dict(self.webs)
        webs[name] = web
        for at, wish in enumerate(self.wishes):
            if name in names_of(wish) and not holds(webs, wish):
                raise Broken(at)
        self.lead_to(webs, self.wishes)

    def drop(self, name):
        """Takes a name away."""
        self.check_name(name)
        for at, wish in enumerate(self.wishes):
            if name in names_of(wish):
                raise InUse(at)
        self.lead_to({other: self.webs[other] for other in self.webs if other != name}, self.wishes)

    def wish(self, wish):
        """Puts a wish behind the others."""
        if not is_wish(wish):
            raise InvalidWish(wish)
        if not holds(self.webs, wish):
            raise Broken(len(self.wishes))
        self.lead_to(self.webs, self.wishes + (wish,))

    def lift(self, index):
        """Takes a wish away."""
        if not is_integer_from(index, 0, len(self.wishes) - 1):
            raise InvalidIndex(index)
        self.lead_to(self.webs, self.wishes[:index] + self.wishes[index + 1:])

    def cut(self, name, index):
        """Puts the web without the tie in the place of the one under the name."""
        self.check_name(name)
        self.store(name, cut(self.webs[name], index))

    def shut(self, name, index):
        """Likewise the web with the tie shut."""
        self.check_name(name)
        self.store(name, shut(self.webs[name], index))

    def undo(self):
        """Takes back the last change."""
        if not self.past:
            raise NothingToUndo()
        webs, wishes = self.past[-1]
        self.past = self.past[:-1]
        self.show(webs, wishes)

    def trial(self):
        """For a with: what its rows do is taken back behind them."""
        return ShelfTrial(self)

    def tried(self, act):
        """What act makes of the shelf, within a trial."""
        with self.trial() as held:
            return act(held)
