"""The checker: whether a certificate shows a claim.

For each kind of claim there is a function that is passed the web, the certificate and the other parts of the claim. A
part or certificate of the wrong shape raises an error there, as it does everywhere; then nothing is shown.
"""

from math import gcd

from webreckon.currents import need_of
from webreckon.currents import outflow
from webreckon.currents import outflow_of_fractions
from webreckon.currents import rise_with
from webreckon.dyes import fits
from webreckon.dyes import number_of_dyes
from webreckon.errors import QuestionError
from webreckon.errors import ShapeError
from webreckon.errors import SizeError
from webreckon.heaps import check_heap_and_bank
from webreckon.heaps import check_heaps
from webreckon.heaps import heap_behind
from webreckon.heaps import is_least_heap
from webreckon.heaps import most_settled
from webreckon.heaps import ties_to
from webreckon.heights import difference
from webreckon.heights import ties_at
from webreckon.leanings import arrows_of
from webreckon.leanings import is_ring_of_arrows
from webreckon.leanings import turned_by
from webreckon.likeness import are_like
from webreckon.limits import MOST_DYE
from webreckon.lots import are_joined
from webreckon.lots import lot_of_all
from webreckon.ranks import check_web_and_heap
from webreckon.ranks import least_taking
from webreckon.scores import bars_row
from webreckon.scores import score_of
from webreckon.shapes import FIGURES
from webreckon.shapes import NOWHERE
from webreckon.shapes import check_bounds
from webreckon.shapes import check_dye
from webreckon.shapes import check_leaning
from webreckon.shapes import check_lengths
from webreckon.shapes import check_letters
from webreckon.shapes import check_lot
from webreckon.shapes import check_number
from webreckon.shapes import check_place
from webreckon.shapes import check_rooms
from webreckon.shapes import check_row
from webreckon.shapes import check_values
from webreckon.shapes import is_herd
from webreckon.shapes import is_integer
from webreckon.shapes import is_integer_from
from webreckon.shapes import where_wrong
from webreckon.table import table
from webreckon.trees import check_tree
from webreckon.trees import count_trees
from webreckon.trees import least_length
from webreckon.ways import check_ends
from webreckon.ways import rooms_of_one
from webreckon.ways import ways_between
from webreckon.ways import width_of
from webreckon.webs import Web
from webreckon.webs import with_letters

MOST_SHOWN = 10 ** 60
NOUGHT = (0, 1)


def is_shown_number(value):
    return is_integer_from(value, -MOST_SHOWN, MOST_SHOWN)


def is_pair(value):
    return isinstance(value, tuple) and len(value) == 2


def is_shown_fraction(value):
    if not is_pair(value) or not is_shown_number(value[0]) or not is_integer_from(value[1], 1, MOST_SHOWN):
        return False
    return gcd(value[0], value[1]) == 1


def is_shown_steps(value):
    return value is None or is_shown_fraction(value)


def is_nothing(value):
    return isinstance(value, tuple) and len(value) == 0


def is_row_of(value, many, is_right):
    return where_wrong(value, many, is_right) == NOWHERE


def is_integers_row(value):
    return isinstance(value, tuple) and is_row_of(value, len(value), is_integer)


def is_order(places, value):
    """Whether it is a string of all these places, each once."""
    return isinstance(value, str) and sorted(value) == list(places)


def is_herd_between(web, value, place, other_place):
    return is_herd(web, value) and place in value and other_place not in value


def divides(number, other):
    """0 divides 0 alone."""
    return other == 0 if number == 0 else other % number == 0


def shows_like(web, certificate, text):
    other_web = Web.read(text)
    check_letters(web, certificate)
    found = with_letters(web, certificate)
    return found.places == other_web.places and sorted(found.ties) == sorted(other_web.ties)


def shows_unlike(web, certificate, text):
    return is_nothing(certificate) and not are_like(web, Web.read(text))


def shows_trees(web, certificate, number):
    return is_nothing(certificate) and is_integer(number) and count_trees(web) == number


def shows_table(web, certificate, rows):
    if not isinstance(rows, tuple) or not all([is_integers_row(row) for row in rows]):
        return False
    return is_nothing(certificate) and table(web) == rows


def shows_least_tree(web, certificate, lengths, number):
    check_lengths(web, lengths)
    check_tree(web, certificate)
    length = sum([lengths[index] for index in certificate])
    return is_integer(number) and length == number and least_length(web, lengths) == number


def shows_ringless(web, certificate, leaning):
    check_leaning(web, leaning)
    if not is_order(web.places, certificate):
        return False
    arrows = arrows_of(web, leaning)
    return all([certificate.index(arrow[0]) < certificate.index(arrow[1]) for arrow in arrows])


def shows_ring(web, certificate, leaning):
    check_leaning(web, leaning)
    check_lot(web, certificate)
    return is_ring_of_arrows(web, leaning, certificate)


def shows_row(web, certificate, row):
    check_row(web, row)
    check_leaning(web, certificate)
    return score_of(web, certificate) == row


def shows_no_row(web, certificate, row):
    check_row(web, row)
    return is_herd(web, certificate) and bars_row(web, row, certificate)


def shows_turned(web, certificate, leaning, other_leaning):
    check_leaning(web, leaning)
    check_leaning(web, other_leaning)
    if not isinstance(certificate, tuple):
        return False
    ties = ()
    for lot in certificate:
        check_lot(web, lot)
        if not is_ring_of_arrows(web, leaning, lot) or any([index in ties for index in lot]):
            return False
        ties = ties + lot
    return turned_by(leaning, ties) == other_leaning


def shows_dyed(web, certificate, number):
    check_number(number, 1, MOST_DYE)
    check_dye(web, certificate, FIGURES[:number])
    return fits(web, certificate)


def shows_not_dyed(web, certificate, number):
    check_number(number, 1, MOST_DYE)
    return is_nothing(certificate) and number_of_dyes(web, number) == 0


def shows_current(web, certificate, bounds):
    check_bounds(web, bounds)
    if not is_row_of(certificate, len(web.ties), is_integer):
        return False
    are_within = [low <= value <= high for value, (low, high) in zip(certificate, bounds)]
    return all(are_within) and not any(outflow(web, certificate))


def shows_barred(web, certificate, bounds):
    check_bounds(web, bounds)
    return is_herd(web, certificate) and need_of(web, bounds, certificate) > 0


def shows_parted(web, certificate, values, current):
    check_values(web, values)
    if not is_row_of(current, len(web.ties), is_shown_fraction):
        return False
    if not is_row_of(certificate, len(web.places), is_shown_fraction) or any(outflow_of_fractions(web, current)[0]):
        return False
    return rise_with(web, certificate) == tuple([difference(value, part) for value, part in zip(values, current)])


def shows_alike(web, certificate, heap, other_heap):
    check_heaps(web, heap, other_heap)
    if not is_row_of(certificate, len(web.places), is_shown_number):
        return False
    return heap_behind(web, heap, certificate) == other_heap


def shows_not_alike(web, certificate, heap, other_heap):
    check_heaps(web, heap, other_heap)
    if not is_pair(certificate):
        return False
    number, row = certificate
    if not is_integer_from(number, 0, MOST_SHOWN) or number == 1:
        return False
    if not is_row_of(row, len(web.places), is_shown_number):
        return False
    # What places have less by giving is the sum over their ties of how much more often they give than the other end.
    given = heap_behind(web, [0] * len(web.places), row)
    if not all([divides(number, less) for less in given]):
        return False
    return not divides(number, sum([one * (two - three) for one, two, three in zip(row, heap, other_heap)]))


def shows_free(web, certificate, heap):
    check_web_and_heap(web, heap)
    if not is_row_of(certificate, len(web.places), is_shown_number):
        return False
    return min(heap_behind(web, heap, certificate)) >= 0


def shows_debt(web, certificate, heap):
    check_web_and_heap(web, heap)
    if not is_pair(certificate):
        return False
    bank, gives = certificate
    check_place(web, bank)
    if not is_row_of(gives, len(web.places), is_shown_number):
        return False
    found = heap_behind(web, heap, gives)
    return found[web.places.index(bank)] < 0 and is_least_heap(web, found, bank)


def shows_rank(web, certificate, heap, number):
    check_web_and_heap(web, heap)
    return is_nothing(certificate) and is_integer(number) and sum(least_taking(web, heap)) - 1 == number


def shows_lasting(web, certificate, bank, heap):
    check_heap_and_bank(web, heap, bank)
    if not is_order(web.places.replace(bank, ""), certificate):
        return False
    told = {place: number for place, number in zip(web.places, heap)}
    most = {place: number for place, number in zip(web.places, most_settled(web))}
    reached = bank
    for place in certificate:
        if told[place] > most[place] or told[place] + ties_to(web, place, reached) <= most[place]:
            return False
        reached += place
    return told[bank] == 0


def shows_pull(web, certificate, place, other_place, told):
    check_ends(web, place, other_place)
    if not is_row_of(certificate, len(web.places), is_shown_fraction) or not is_shown_fraction(told):
        return False
    out, bottom = outflow_of_fractions(web, rise_with(web, certificate))
    heights = {at: height for at, height in zip(web.places, certificate)}
    # A tie carries what its heights fall, so that one unit goes out of a place where their rise is one less than 0.
    wanted = {place: -bottom, other_place: bottom}
    if not all([less == wanted.get(at, 0) for at, less in zip(web.places, out)]):
        return False
    others = [at for at in web.places if not are_joined(web, lot_of_all(web), at, place)]
    return all([heights[at] == NOUGHT for at in others + [other_place]]) and heights[place] == told


def shows_steps(web, certificate, place, other_place, told):
    check_ends(web, place, other_place)
    if not is_row_of(certificate, len(web.places), is_shown_steps) or not is_shown_fraction(told):
        return False
    heights = {at: height for at, height in zip(web.places, certificate)}
    near = [at for at in web.places if are_joined(web, lot_of_all(web), at, other_place)]
    if not all([(heights[at] is not None) == (at in near) for at in web.places]):
        return False
    rise = rise_with(web, [NOUGHT if height is None else height for height in certificate])
    out, bottom = outflow_of_fractions(web, rise)
    # The ties at a place lead, in the mean, one step nearer; all of them together as many steps as there are ties.
    for at, more in zip(web.places, out):
        if at in near and at != other_place and more != -ties_at(web, at) * bottom:
            return False
    return heights[other_place] == NOUGHT and heights[place] == told


def shows_amount(web, certificate, rooms, place, other_place, number):
    check_rooms(web, rooms)
    check_ends(web, place, other_place)
    if not is_pair(certificate) or not is_integer(number):
        return False
    row, herd = certificate
    if not is_row_of(row, len(web.ties), is_integer) or not is_herd_between(web, herd, place, other_place):
        return False
    wanted = {place: number, other_place: -number}
    is_carried = [out == wanted.get(at, 0) for at, out in zip(web.places, outflow(web, row))]
    is_within = [abs(value) <= room for value, room in zip(row, rooms)]
    return all(is_carried) and all(is_within) and width_of(web, rooms, herd) == number


def shows_apart(web, certificate, place, other_place, number):
    check_ends(web, place, other_place)
    if not is_pair(certificate) or not isinstance(certificate[0], tuple) or not is_integer(number):
        return False
    lots, herd = certificate
    ways = [lot for _, lot in ways_between(web, place, other_place)]
    ties = ()
    for lot in lots:
        check_lot(web, lot)
        if lot not in ways or any([index in ties for index in lot]):
            return False
        ties = ties + lot
    if not is_herd_between(web, herd, place, other_place):
        return False
    return len(lots) == number and width_of(web, rooms_of_one(web), herd) == number


# For each kind of claim how many parts it has, and what shows it.
CLAIMS = {
    "like": (3, shows_like),
    "unlike": (3, shows_unlike),
    "trees": (3, shows_trees),
    "table": (3, shows_table),
    "least tree": (4, shows_least_tree),
    "ringless": (3, shows_ringless),
    "ring": (3, shows_ring),
    "row": (3, shows_row),
    "no row": (3, shows_no_row),
    "turned": (4, shows_turned),
    "dyed": (3, shows_dyed),
    "not dyed": (3, shows_not_dyed),
    "current": (3, shows_current),
    "barred": (3, shows_barred),
    "parted": (4, shows_parted),
    "alike": (4, shows_alike),
    "not alike": (4, shows_not_alike),
    "free": (3, shows_free),
    "debt": (3, shows_debt),
    "rank": (4, shows_rank),
    "lasting": (4, shows_lasting),
    "pull": (5, shows_pull),
    "steps": (5, shows_steps),
    "amount": (6, shows_amount),
    "apart": (5, shows_apart),
}


def accepts(claim, certificate):
    """Whether this is a claim and its certificate shows it, whatever is passed."""
    if not isinstance(claim, tuple) or not claim or not isinstance(claim[0], str):
        return False
    if claim[0] not in CLAIMS:
        return False
    many, shows = CLAIMS[claim[0]]
    if len(claim) != many:
        return False
    parts = claim[2:]
    try:
        return shows(Web.read(claim[1]), certificate, *parts)
    except (ShapeError, QuestionError, SizeError):
        return False
