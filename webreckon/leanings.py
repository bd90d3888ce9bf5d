"""Leanings: rings and cuts of arrows, the ringless and the ringed ones, and their sorts."""

from webreckon.errors import InvalidWord
from webreckon.lots import all_herds
from webreckon.lots import crossing
from webreckon.lots import is_ring_lot
from webreckon.lots import rings
from webreckon.shapes import SIGNS
from webreckon.shapes import check_index
from webreckon.shapes import check_leaning
from webreckon.shapes import check_lot
from webreckon.shapes import check_place
from webreckon.webs import check_web

OPPOSITE = {"+": "-", "-": "+"}
WORDS = ("rings", "cuts", "both")


def check_word(word):
    if not isinstance(word, str) or word not in WORDS:
        raise InvalidWord(word)


def check_web_and_leaning(web, leaning):
    check_web(web)
    check_leaning(web, leaning)


def arrow_of(tie, sign):
    return tie if sign == "+" else tie[1] + tie[0]


def arrows_of(web, leaning):
    return tuple([arrow_of(tie, sign) for tie, sign in zip(web.ties, leaning)])


def turned_by(leaning, lot):
    return "".join([OPPOSITE[sign] if index in lot else sign for index, sign in enumerate(leaning)])


def is_ring_of_arrows(web, leaning, lot):
    """The arrows of a ring go round one way exactly if they leave each of its places as often as they come to it."""
    row = arrows_of(web, leaning)
    tails = sorted([row[index][0] for index in lot])
    heads = sorted([row[index][1] for index in lot])
    return is_ring_lot(web, lot) and tails == heads


def leads_out(web, leaning, herd):
    """Whether some tie crosses the herd's border, and all arrows that do leave the herd."""
    row = arrows_of(web, leaning)
    lot = crossing(web, herd)
    return len(lot) > 0 and all([row[index][0] in herd for index in lot])


def leanings_of(web):
    """All leanings, in the order of strings."""
    leanings = [""]
    for _ in web.ties:
        leanings = [leaning + sign for leaning in leanings for sign in SIGNS]
    return leanings


def fronts_among(places, row):
    """The places into which none of the arrows of the row comes."""
    heads = "".join([arrow[1] for arrow in row])
    return "".join([place for place in places if place not in heads])


def first_order(web, leaning):
    """The first order of places in which no arrow leads back; None if there is none."""
    order = ""
    left = web.places
    row = arrows_of(web, leaning)
    while left:
        free = fronts_among(left, row)
        if not free:
            return None
        order += free[0]
        left = left.replace(free[0], "")
        row = [arrow for arrow in row if arrow[0] in left]
    return order


def ways_along(row, start):
    """For each place that the arrows of the row lead to from the start, the indexes of those on one way."""
    ways = {start: ()}
    grown = True
    while grown:
        grown = False
        for index, arrow in enumerate(row):
            if arrow[0] in ways and arrow[1] not in ways:
                ways[arrow[1]] = ways[arrow[0]] + (index,)
                grown = True
    return ways


def is_each_in_a_ring(web, leaning):
    row = arrows_of(web, leaning)
    ways = {place: ways_along(row, place) for place in web.places}
    return all([arrow[0] in ways[arrow[1]] for arrow in row])


def mask_of(lot):
    return sum([1 << index for index in lot])


def number_of(leaning):
    """The leaning as an integer: its bit with the index of a tie tells that the sign there is a minus."""
    return mask_of([index for index, sign in enumerate(leaning) if sign == "-"])


def leaning_with_number(web, number):
    return "".join([SIGNS[number >> index & 1] for index in range(len(web.ties))])


def backward_in(web, ring):
    """The ties of a ring that need a minus if the first one has a plus and all arrows go round one way."""
    start, at = web.ties[ring[0]]
    left = list(ring[1:])
    backward = []
    while at != start:
        index = [other for other in left if at in web.ties[other]][0]
        left.remove(index)
        tie = web.ties[index]
        if tie[0] != at:
            backward.append(index)
        at = tie[0] if tie[1] == at else tie[1]
    return backward


def turns_by_rings(web):
    """Pairs of a mask and a pattern: where a leaning has the pattern in the mask, there is a ring of arrows."""
    turns = []
    for ring in rings(web):
        mask = mask_of(ring)
        pattern = mask_of(backward_in(web, ring))
        turns.append((mask, pattern))
        turns.append((mask, mask ^ pattern))
    return turns


def turns_by_cuts(web):
    """Likewise the cuts of arrows, one for each herd out of which they may lead."""
    turns = []
    for herd in all_herds(web):
        lot = crossing(web, herd)
        if lot:
            turns.append((mask_of(lot), mask_of([index for index in lot if web.ties[index][1] in herd])))
    return turns


def turns_by(web, word):
    if word == "rings":
        return turns_by_rings(web)
    if word == "cuts":
        return turns_by_cuts(web)
    return turns_by_rings(web) + turns_by_cuts(web)


def numbers_of_sort(turns, start):
    """A dict with the number of each leaning to which turning leads from the start."""
    found = {start: True}
    fresh = [start]
    while fresh:
        number = fresh.pop()
        for mask, pattern in turns:
            if number & mask == pattern and number ^ mask not in found:
                found[number ^ mask] = True
                fresh.append(number ^ mask)
    return found


def arrows(web, leaning):
    """The tuple of the arrows, each told by the place it leaves and the place it leads to."""
    check_web_and_leaning(web, leaning)
    return arrows_of(web, leaning)


def turned(web, leaning, lot):
    """The leaning with the signs of the ties of the lot exchanged."""
    check_web_and_leaning(web, leaning)
    check_lot(web, lot)
    return turned_by(leaning, lot)


def is_ringless(web, leaning):
    check_web_and_leaning(web, leaning)
    return first_order(web, leaning) is not None


def is_ringed(web, leaning):
    check_web_and_leaning(web, leaning)
    return is_each_in_a_ring(web, leaning)


def fronts(web, leaning):
    """The string of the places into which no arrow comes."""
    check_web_and_leaning(web, leaning)
    return fronts_among(web.places, arrows_of(web, leaning))


def ring_or_cut(web, leaning, index):
    """A ring of arrows with the tie, or a cut of arrows with it, behind the word for it."""
    check_web_and_leaning(web, leaning)
    check_index(web, index)
    row = arrows_of(web, leaning)
    tail, head = row[index]
    ways = ways_along(row, head)
    if tail in ways:
        return ("ring", tuple(sorted(ways[tail] + (index,))))
    herd = "".join([place for place in web.places if place not in ways])
    return ("cut", crossing(web, herd))


def order_of(web, leaning):
    """The first string of all places in which each arrow leads from an earlier to a later one, or None."""
    check_web_and_leaning(web, leaning)
    return first_order(web, leaning)


def ringless(web):
    """The tuple of all ringless leanings, in the order of strings."""
    check_web(web)
    return tuple([leaning for leaning in leanings_of(web) if first_order(web, leaning) is not None])


def ringed(web):
    """The tuple of all ringed leanings, in the order of strings."""
    check_web(web)
    return tuple([leaning for leaning in leanings_of(web) if is_each_in_a_ring(web, leaning)])


def with_front(web, place):
    """The tuple of the ringless leanings whose only front is the place."""
    check_web(web)
    check_place(web, place)
    return tuple([leaning for leaning in ringless(web) if fronts(web, leaning) == place])


def are_of_sort(web, leaning, other_leaning, word):
    """Whether turning what the word tells leads from the one to the other."""
    check_web_and_leaning(web, leaning)
    check_leaning(web, other_leaning)
    check_word(word)
    return number_of(other_leaning) in numbers_of_sort(turns_by(web, word), number_of(leaning))


def sort_of(web, leaning, word):
    """The tuple of all leanings of the sort, in the order of strings."""
    check_web_and_leaning(web, leaning)
    check_word(word)
    found = numbers_of_sort(turns_by(web, word), number_of(leaning))
    return tuple(sorted([leaning_with_number(web, number) for number in found]))


def count_sorts(web, word):
    """How many sorts there are."""
    check_web(web)
    check_word(word)
    turns = turns_by(web, word)
    seen = {}
    count = 0
    for number in range(1 << len(web.ties)):
        if number not in seen:
            count += 1
            seen.update(numbers_of_sort(turns, number))
    return count
