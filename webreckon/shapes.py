"""What passed values must look like: small tests, and checks that raise the error of each parameter.

The checks of a web, of a tree and of words stand with what they need: in webs, trees and leanings.
"""

from math import gcd

from webreckon.errors import InvalidBounds
from webreckon.errors import InvalidDye
from webreckon.errors import InvalidFraction
from webreckon.errors import InvalidHeap
from webreckon.errors import InvalidIndex
from webreckon.errors import InvalidLeaning
from webreckon.errors import InvalidLengths
from webreckon.errors import InvalidLetters
from webreckon.errors import InvalidLot
from webreckon.errors import InvalidNumber
from webreckon.errors import InvalidPlaces
from webreckon.errors import InvalidRooms
from webreckon.errors import InvalidRow
from webreckon.errors import InvalidTies
from webreckon.errors import InvalidValues
from webreckon.errors import UnknownPlace
from webreckon.limits import MOST_HEAP
from webreckon.limits import MOST_LENGTH
from webreckon.limits import MOST_PLACES
from webreckon.limits import MOST_ROOM
from webreckon.limits import MOST_TIES

LETTERS = "abcdefgh"
SIGNS = "+-"
FIGURES = "1234567"
UNTOLD = "?"
MOST_TOP = 10 ** 6
MOST_BOTTOM = 1000
MOST_SCORE = 10 ** 6
NOWHERE = -1


def is_integer(value):
    """Whether it is an integer; True and False are none."""
    return isinstance(value, int) and not isinstance(value, bool)


def is_integer_from(value, low, high):
    return is_integer(value) and low <= value <= high


def are_letters(value):
    """Whether it is a string of unlike letters from a to h, in any order."""
    if not isinstance(value, str) or len(value) > len(LETTERS):
        return False
    return all([letter in LETTERS and value.count(letter) == 1 for letter in value])


def are_places(value):
    if not are_letters(value) or not 1 <= len(value) <= MOST_PLACES:
        return False
    return value == "".join(sorted(value))


def is_place(web, value):
    return isinstance(value, str) and len(value) == 1 and value in web.places


def is_herd(web, value):
    """Whether it is a string of unlike places of the web, ascending; the empty one is."""
    if not isinstance(value, str) or len(value) > len(web.places):
        return False
    return value == "".join([place for place in web.places if place in value])


def is_tie(places, value):
    if not isinstance(value, str) or len(value) != 2:
        return False
    return value[0] in places and value[1] in places and value[0] <= value[1]


def first_wrong_tie(places, ties):
    """The index of the first element that is no tie, or one too many; None if there is none."""
    for at, tie in enumerate(ties):
        if at >= MOST_TIES or not is_tie(places, tie):
            return at
    return None


def is_text(value):
    if not isinstance(value, str):
        return False
    parts = value.split(" ")
    return are_places(parts[0]) and first_wrong_tie(parts[0], parts[1:]) is None


def is_fraction(value):
    if not isinstance(value, tuple) or len(value) != 2:
        return False
    top, bottom = value
    if not is_integer_from(top, -MOST_TOP, MOST_TOP) or not is_integer_from(bottom, 1, MOST_BOTTOM):
        return False
    return gcd(top, bottom) == 1


def is_bound(value):
    if not isinstance(value, tuple) or len(value) != 2:
        return False
    low, high = value
    return is_integer_from(low, -MOST_ROOM, MOST_ROOM) and is_integer_from(high, low, MOST_ROOM)


def is_room(value):
    return is_integer_from(value, 0, MOST_ROOM)


def is_length(value):
    return is_integer_from(value, -MOST_LENGTH, MOST_LENGTH)


def is_score(value):
    return is_integer_from(value, 0, MOST_SCORE)


def is_heap_number(value):
    return is_integer_from(value, -MOST_HEAP, MOST_HEAP)


def where_wrong(values, many, is_right):
    """None if it is no tuple of so many elements, else the index of the first wrong one, NOWHERE if all are right."""
    if not isinstance(values, tuple) or len(values) != many:
        return None
    for at, value in enumerate(values):
        if not is_right(value):
            return at
    return NOWHERE


def where_no_lot(web, values, most):
    """Likewise for a lot of up to so many ties; the first one too many is a wrong one."""
    if not isinstance(values, tuple):
        return None
    least = 0
    for at, index in enumerate(values):
        if at >= most or not is_integer_from(index, least, len(web.ties) - 1):
            return at
        least = index + 1
    return NOWHERE


def check_places(places):
    if not are_places(places):
        raise InvalidPlaces(places)


def check_ties(places, ties):
    if not isinstance(ties, tuple):
        raise InvalidTies(None)
    wrong = first_wrong_tie(places, ties)
    if wrong is not None:
        raise InvalidTies(wrong)


def check_index(web, index):
    if not is_integer_from(index, 0, len(web.ties) - 1):
        raise InvalidIndex(index)


def check_place(web, place):
    if not is_place(web, place):
        raise UnknownPlace(place)


def check_letters(web, letters):
    if not are_letters(letters) or len(letters) != len(web.places):
        raise InvalidLetters(letters)


def check_lot(web, lot, most=MOST_TIES):
    wrong = where_no_lot(web, lot, most)
    if wrong != NOWHERE:
        raise InvalidLot(wrong)


def check_number(number, low, high):
    if not is_integer_from(number, low, high):
        raise InvalidNumber(number)


def check_fraction(value):
    if not is_fraction(value):
        raise InvalidFraction(value)


def check_lengths(web, lengths):
    wrong = where_wrong(lengths, len(web.ties), is_length)
    if wrong != NOWHERE:
        raise InvalidLengths(wrong)


def check_values(web, values):
    wrong = where_wrong(values, len(web.ties), is_fraction)
    if wrong != NOWHERE:
        raise InvalidValues(wrong)


def check_bounds(web, bounds):
    wrong = where_wrong(bounds, len(web.ties), is_bound)
    if wrong != NOWHERE:
        raise InvalidBounds(wrong)


def check_rooms(web, rooms):
    wrong = where_wrong(rooms, len(web.ties), is_room)
    if wrong != NOWHERE:
        raise InvalidRooms(wrong)


def check_row(web, row):
    wrong = where_wrong(row, len(web.places), is_score)
    if wrong != NOWHERE:
        raise InvalidRow(wrong)


def check_gives(web, gives):
    """Gives may have the same numbers as heaps, but another error tells that they are wrong."""
    wrong = where_wrong(gives, len(web.places), is_heap_number)
    if wrong != NOWHERE:
        raise InvalidRow(wrong)


def check_heap(web, heap):
    wrong = where_wrong(heap, len(web.places), is_heap_number)
    if wrong != NOWHERE:
        raise InvalidHeap(wrong)


def check_dye(web, dye, figures):
    if not isinstance(dye, str) or len(dye) != len(web.places):
        raise InvalidDye(dye)
    if not all([figure in figures for figure in dye]):
        raise InvalidDye(dye)


def check_leaning(web, leaning):
    if not isinstance(leaning, str) or len(leaning) != len(web.ties):
        raise InvalidLeaning(leaning)
    if not all([sign in SIGNS for sign in leaning]):
        raise InvalidLeaning(leaning)
