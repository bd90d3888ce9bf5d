"""Heaps: places give along their ties; heaps that are alike, least ones, and how a heap burns."""

from webreckon.errors import Apart
from webreckon.errors import Looped
from webreckon.errors import Refused
from webreckon.errors import TooMany
from webreckon.heights import heights_for
from webreckon.heights import ties_at
from webreckon.limits import MOST_HEAP
from webreckon.lots import crossing
from webreckon.shapes import check_gives
from webreckon.shapes import check_heap
from webreckon.shapes import check_place
from webreckon.trees import check_tree
from webreckon.webs import check_web
from webreckon.webs import is_whole
from webreckon.webs import without_loops


def check_whole(web):
    """Whether heaps are told of this web; looked for when all parameters are right."""
    if not is_whole(web):
        raise Apart()
    if without_loops(web) != web:
        raise Looped()


def check_heap_and_bank(web, heap, bank):
    check_web(web)
    check_heap(web, heap)
    check_place(web, bank)
    check_whole(web)


def check_heaps(web, heap, other_heap):
    check_web(web)
    check_heap(web, heap)
    check_heap(web, other_heap)
    check_whole(web)


def is_below(web, heap, bank):
    """Whether some place but the bank has less than 0."""
    return any([number < 0 for place, number in zip(web.places, heap) if place != bank])


def check_not_below(web, heap, bank):
    if is_below(web, heap, bank):
        raise Refused(heap)


def check_not_too_great(heap):
    if any([abs(number) > MOST_HEAP for number in heap]):
        raise TooMany(MOST_HEAP)


def heap_behind(web, heap, gives):
    """What the places have when each has given so often."""
    told = {place: number for place, number in zip(web.places, heap)}
    often = {place: number for place, number in zip(web.places, gives)}
    for tie in web.ties:
        more = often[tie[0]] - often[tie[1]]
        told[tie[0]] -= more
        told[tie[1]] += more
    return tuple(told.values())


def gives_from(web, heap, other_heap):
    """The gives, 0 for the first place, that lead from the first heap to the other one; None if none do."""
    if sum(heap) != sum(other_heap):
        return None
    amounts = [one - other for one, other in zip(heap, other_heap)]
    tops, bottom = heights_for(web, amounts, web.places[0])
    if any([top % bottom != 0 for top in tops]):
        return None
    return tuple([top // bottom for top in tops])


def most_settled(web):
    """For each place the ties at it less 1: with more it must give, if it is not the bank."""
    return tuple([ties_at(web, place) - 1 for place in web.places])


def evened(web, heap, bank):
    """An alike heap that has, at all places but the bank, 0 or more and less than twice the ties there.

    Gives in fractions would lead to one less than the ties at each of these places. Of each of them less than one
    is left out, so that a place has less than the ties at it more or less than that.
    """
    amounts = [number - most for number, most in zip(heap, most_settled(web))]
    tops, bottom = heights_for(web, amounts, bank)
    return heap_behind(web, heap, [top // bottom for top in tops])


def next_to_burn(web, order, burnt):
    """The tie that burns next, and its end that does not burn; None if no tie does."""
    lot = [index for index in crossing(web, order) if index not in burnt]
    if not lot:
        return None
    tie = web.ties[lot[-1]]
    return (lot[-1], tie[1] if tie[0] in order else tie[0])


def burnt_at(web, burnt, place):
    """How many of the burnt ties are at the place."""
    return len([index for index in burnt if place in web.ties[index]])


def burnt_from(web, heap, bank):
    """The places that come to burn, in order, the bank ahead, and their fuses."""
    order = bank
    fuses = ()
    burnt = ()
    step = next_to_burn(web, order, burnt)
    while step is not None:
        index, place = step
        burnt = burnt + (index,)
        if burnt_at(web, burnt, place) > heap[web.places.index(place)]:
            order += place
            fuses = fuses + (index,)
        step = next_to_burn(web, order, burnt)
    return (order, fuses)


def ties_to(web, place, herd):
    """How many ties lead from a place outside the herd into it."""
    return len([index for index in crossing(web, herd) if place in web.ties[index]])


def heap_with_fuses(web, tree, bank):
    """The heap that burns so that a place comes to burn just when its tie of the tree does; 0 at the bank."""
    order = bank
    burnt = ()
    told = {place: 0 for place in web.places}
    step = next_to_burn(web, order, burnt)
    while step is not None:
        index, place = step
        burnt = burnt + (index,)
        if index in tree:
            order += place
            told[place] = burnt_at(web, burnt, place) - 1
        step = next_to_burn(web, order, burnt)
    return tuple(told.values())


def least_of(web, heap, bank):
    """The least alike heap: where not all burns, all that does not burn can give once."""
    heap = evened(web, heap, bank)
    order, _ = burnt_from(web, heap, bank)
    while len(order) < len(web.places):
        heap = heap_behind(web, heap, [0 if place in order else 1 for place in web.places])
        order, _ = burnt_from(web, heap, bank)
    return heap


def is_least_heap(web, heap, bank):
    """A heap is least exactly if all places come to burn."""
    if is_below(web, heap, bank):
        return False
    return len(burnt_from(web, heap, bank)[0]) == len(web.places)


def behind(web, heap, gives):
    """The heap behind the gives."""
    check_web(web)
    check_heap(web, heap)
    check_gives(web, gives)
    check_whole(web)
    found = heap_behind(web, heap, gives)
    check_not_too_great(found)
    return found


def are_alike(web, heap, other_heap):
    """Whether gives lead from the one to the other."""
    check_heaps(web, heap, other_heap)
    return gives_from(web, heap, other_heap) is not None


def gives_between(web, heap, other_heap):
    """The gives that lead from the one to the other, 0 for the first place; None if none do."""
    check_heaps(web, heap, other_heap)
    return gives_from(web, heap, other_heap)


def least_heap(web, heap, bank):
    """The heap alike to this one that is least at the bank."""
    check_heap_and_bank(web, heap, bank)
    return least_of(web, heap, bank)


def is_least(web, heap, bank):
    """Whether the heap is least at the bank."""
    check_heap_and_bank(web, heap, bank)
    return is_least_heap(web, heap, bank)


def burning(web, heap, bank):
    """The places that come to burn, in order, and their fuses."""
    check_heap_and_bank(web, heap, bank)
    check_not_below(web, heap, bank)
    return burnt_from(web, heap, bank)


def heap_of_tree(web, tree, bank):
    """The least heap, 0 at the bank, whose fuses are the tree."""
    check_web(web)
    check_tree(web, tree)
    check_place(web, bank)
    check_whole(web)
    return heap_with_fuses(web, tree, bank)
