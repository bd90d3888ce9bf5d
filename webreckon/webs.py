"""Webs, and how one web comes from another one."""

from webreckon.errors import InvalidText
from webreckon.errors import NotAWeb
from webreckon.errors import Refused
from webreckon.errors import TooMany
from webreckon.limits import MOST_PLACES
from webreckon.limits import MOST_TIES
from webreckon.shapes import check_index
from webreckon.shapes import check_letters
from webreckon.shapes import check_place
from webreckon.shapes import check_places
from webreckon.shapes import check_ties
from webreckon.shapes import is_text


class Web:
    """Places, and ties between them in an order; it stays the same for good."""

    def __init__(self, places, ties):
        check_places(places)
        check_ties(places, ties)
        self.places = places
        self.ties = ties

    @classmethod
    def read(cls, text):
        """The web with this text."""
        if not is_text(text):
            raise InvalidText(text)
        parts = text.split(" ")
        return cls(parts[0], tuple(parts[1:]))

    def text(self):
        return " ".join([self.places, *self.ties])

    def __str__(self):
        return f"{self.text()}"

    def __len__(self):
        return len(self.ties)

    def __eq__(self, other):
        return isinstance(other, Web) and self.places == other.places and self.ties == other.ties


def check_web(web):
    if not isinstance(web, Web):
        raise NotAWeb(web)


def in_order(letters):
    return "".join(sorted(letters))


def other_end(web, index, place):
    """The end of the tie behind this one; of a loop the place itself."""
    tie = web.ties[index]
    return tie[1] if tie[0] == place else tie[0]


def marks(web, lot):
    """For each place, in their order, the first place of its piece by the ties of the lot."""
    row = web.places
    for index in lot:
        tie = web.ties[index]
        one = row[web.places.index(tie[0])]
        other = row[web.places.index(tie[1])]
        row = row.replace(max(one, other), min(one, other))
    return row


def cut(web, index):
    """The web without the tie."""
    check_web(web)
    check_index(web, index)
    return Web(web.places, web.ties[:index] + web.ties[index + 1:])


def shut(web, index):
    """The web in which the ends of the tie are one place; a loop is only cut."""
    rest = cut(web, index)
    lesser, greater = web.ties[index]
    if lesser == greater:
        return rest
    ties = tuple([in_order(tie.replace(greater, lesser)) for tie in rest.ties])
    return Web(web.places.replace(greater, ""), ties)


def put(web, place, other_place):
    """The web with one tie more, at the end."""
    check_web(web)
    check_place(web, place)
    check_place(web, other_place)
    if len(web.ties) >= MOST_TIES:
        raise TooMany(MOST_TIES)
    return Web(web.places, web.ties + (in_order(place + other_place),))


def with_letters(web, letters):
    """The web renamed by letters that are known to be right."""
    renaming = {place: letter for place, letter in zip(web.places, letters)}
    ties = [in_order(renaming[tie[0]] + renaming[tie[1]]) for tie in web.ties]
    return Web(in_order(letters), tuple(ties))


def renamed(web, letters):
    """The web in which each place is the letter with the same index."""
    check_web(web)
    check_letters(web, letters)
    return with_letters(web, letters)


def beside(web, other_web):
    """Both webs as one."""
    check_web(web)
    check_web(other_web)
    common = [place for place in web.places if place in other_web.places]
    if common:
        raise Refused(common[0])
    if len(web.places) + len(other_web.places) > MOST_PLACES:
        raise TooMany(MOST_PLACES)
    if len(web.ties) + len(other_web.ties) > MOST_TIES:
        raise TooMany(MOST_TIES)
    return Web(in_order(web.places + other_web.places), web.ties + other_web.ties)


def without_loops(web):
    """The web with all loops cut."""
    check_web(web)
    return Web(web.places, tuple([tie for tie in web.ties if tie[0] != tie[1]]))


def is_whole(web):
    """Whether all ties make one piece of all places."""
    check_web(web)
    return marks(web, tuple(range(len(web.ties)))) == web.places[0] * len(web.places)
