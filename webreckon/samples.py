"""Webs to begin with."""

from webreckon.shapes import LETTERS
from webreckon.shapes import check_number
from webreckon.webs import Web
from webreckon.webs import in_order

LEAST_WHEEL = 3
MOST_WHEEL = 5


def house():
    """Three places and four ties, two of them alike."""
    return Web("abc", ("ab", "ab", "bc", "ac"))


def wheel(number):
    """A place tied to each of so many others, and these tied round."""
    check_number(number, LEAST_WHEEL, MOST_WHEEL)
    hub = LETTERS[0]
    rim = LETTERS[1:number + 1]
    spokes = [hub + place for place in rim]
    around = [in_order(place + after) for place, after in zip(rim, rim[1:] + rim[0])]
    return Web(hub + rim, tuple(spokes + around))
