"""Doubts: ties that may be there or not, what the fillings have in common, and offers that reach a number."""

from webreckon.errors import InvalidLooks
from webreckon.errors import InvalidOffers
from webreckon.errors import InvalidWord
from webreckon.errors import NoFit
from webreckon.errors import TooMany
from webreckon.limits import MOST_DOUBTS
from webreckon.limits import MOST_TIES
from webreckon.lots import lots_within
from webreckon.shapes import check_lot
from webreckon.shapes import check_number
from webreckon.shapes import is_integer
from webreckon.shapes import is_integer_from
from webreckon.shapes import is_place
from webreckon.table import numbers_of
from webreckon.webs import Web
from webreckon.webs import check_web

WORDS = ("trees", "woods", "holds", "ringless", "rows", "pieces", "spare")
MOST_LOOKS = 6
MOST_OFFERS = 6
MOST_GOAL = 10 ** 6


def is_word(value):
    return isinstance(value, str) and value in WORDS


def is_look(value):
    if not isinstance(value, tuple) or len(value) != 2:
        return False
    word, number = value
    return is_word(word) and is_integer(number) and number >= 0


def is_offer(web, value):
    if not isinstance(value, tuple) or not value or not isinstance(value[0], str):
        return False
    if value[0] == "take" and len(value) == 2:
        return is_integer_from(value[1], 0, len(web.ties) - 1)
    if value[0] == "put" and len(value) == 3:
        return is_place(web, value[1]) and is_place(web, value[2]) and value[1] <= value[2]
    return False


def check_doubts(web, doubts):
    check_web(web)
    check_lot(web, doubts, MOST_DOUBTS)


def check_word(word):
    if not is_word(word):
        raise InvalidWord(word)


def check_looks(looks):
    if not isinstance(looks, tuple):
        raise InvalidLooks(None)
    for at, look in enumerate(looks):
        if at >= MOST_LOOKS or not is_look(look):
            raise InvalidLooks(at)


def check_offers(web, offers):
    if not isinstance(offers, tuple):
        raise InvalidOffers(None)
    for at, offer in enumerate(offers):
        if at >= MOST_OFFERS or not is_offer(web, offer) or offer in offers[:at]:
            raise InvalidOffers(at)


def check_doubts_and_looks(web, doubts, looks):
    check_doubts(web, doubts)
    check_looks(looks)


def filling(web, doubts, lot):
    """The web with these of the doubtful ties, without the others."""
    ties = [tie for index, tie in enumerate(web.ties) if index in lot or index not in doubts]
    return Web(web.places, tuple(ties))


def fits(web, looks):
    numbers = numbers_of(web)
    return all([numbers[word] == number for word, number in looks])


def fitting_lots(web, doubts, looks):
    """For each filling that fits, the lot of the doubtful ties that are there."""
    return [lot for lot in lots_within(doubts) if fits(filling(web, doubts, lot), looks)]


def greater_half(index, lots):
    """How many of the lots have the tie, or how many have it not, if these are more."""
    many = len([lot for lot in lots if index in lot])
    return max(many, len(lots) - many)


def taken_up(web, offers, row):
    """The web behind the offers with these indexes."""
    picked = [offers[at] for at in row]
    taken = [offer[1] for offer in picked if offer[0] == "take"]
    ties = [tie for index, tie in enumerate(web.ties) if index not in taken]
    more = [offer[1] + offer[2] for offer in picked if offer[0] == "put"]
    return Web(web.places, tuple(ties + more))


def has_one_within(row, others):
    return any([all([at in row for at in other]) for other in others])


def range_of(web, doubts, word):
    """The least and the greatest number of the word that a filling has."""
    check_doubts(web, doubts)
    check_word(word)
    numbers = [numbers_of(filling(web, doubts, lot))[word] for lot in lots_within(doubts)]
    return (min(numbers), max(numbers))


def count_fits(web, doubts, looks):
    """How many fillings fit the looks."""
    check_doubts_and_looks(web, doubts, looks)
    return len(fitting_lots(web, doubts, looks))


def surely(web, doubts, looks):
    """The lots of the doubtful ties that are there in all fillings that fit, and in none."""
    check_doubts_and_looks(web, doubts, looks)
    lots = fitting_lots(web, doubts, looks)
    if not lots:
        raise NoFit()
    always = tuple([index for index in doubts if all([index in lot for lot in lots])])
    never = tuple([index for index in doubts if not any([index in lot for lot in lots])])
    return (always, never)


def best_tie(web, doubts, looks):
    """The first doubtful tie that leaves the fewest fillings that fit, however it is; None if just one fits."""
    check_doubts_and_looks(web, doubts, looks)
    lots = fitting_lots(web, doubts, looks)
    if not lots:
        raise NoFit()
    if len(lots) == 1:
        return None
    return min([(greater_half(index, lots), index) for index in doubts])[1]


def reaching(web, offers, word, number):
    """The tuple of all least tuples of offers that, taken up, make the number of the word at least this one."""
    check_web(web)
    check_offers(web, offers)
    check_word(word)
    check_number(number, 0, MOST_GOAL)
    if len(web.ties) + len([offer for offer in offers if offer[0] == "put"]) > MOST_TIES:
        raise TooMany(MOST_TIES)
    found = []
    for _, row in sorted([(len(row), row) for row in lots_within(tuple(range(len(offers))))]):
        if not has_one_within(row, found) and numbers_of(taken_up(web, offers, row))[word] >= number:
            found.append(row)
    return tuple(found)
