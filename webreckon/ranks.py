"""Ranks: which heaps are free, which are in debt, and how much can be taken until they are."""

from webreckon.errors import TooMany
from webreckon.heaps import check_whole
from webreckon.heights import heights_for
from webreckon.heights import ties_at
from webreckon.shapes import check_heap
from webreckon.webs import check_web

MOST_SUM = 8


def check_web_and_heap(web, heap):
    check_web(web)
    check_heap(web, heap)
    check_whole(web)
    if abs(sum(heap)) > MOST_SUM:
        raise TooMany(MOST_SUM)


def sort_of(web, heap):
    """A tuple that is equal for alike heaps, and for no others; its numbers are to be taken up to the bottom.

    Gives by integers, one more or less, change the tops of the heights by multiples of their bottom alone.
    """
    tops, bottom = heights_for(web, heap, web.places[0])
    return (sum(heap),) + tuple([top % bottom for top in tops])


def sort_with(sort, times, other, bottom):
    """The sort of a heap of the first one and so many times one of the other one."""
    tops = [(one + times * two) % bottom for one, two in zip(sort[1:], other[1:])]
    return (sort[0] + times * other[0],) + tuple(tops)


def bottom_of(web):
    return heights_for(web, [0] * len(web.places), web.places[0])[1]


def units_of(web):
    """The heaps with one at one place and nothing elsewhere."""
    return [tuple([1 if other == place else 0 for other in web.places]) for place in web.places]


def free_sorts(web, most):
    """A dict from each sort of free heaps with a sum up to the most to one without a number below 0; by their sums."""
    bottom = bottom_of(web)
    units = [(unit, sort_of(web, unit)) for unit in units_of(web)]
    noughts = (0,) * len(web.places)
    found = {sort_of(web, noughts): noughts}
    fresh = list(found)
    for _ in range(most):
        longer = []
        for sort in fresh:
            for unit, own in units:
                after = sort_with(sort, 1, own, bottom)
                if after not in found:
                    found[after] = tuple([one + other for one, other in zip(found[sort], unit)])
                    longer.append(after)
        fresh = longer
    return found


def free_one(web, heap):
    """A heap alike to this one without a number below 0, None if there is none."""
    return free_sorts(web, sum(heap)).get(sort_of(web, heap), None)


def least_taking(web, heap):
    """As few units as can be without which the heap is in debt: one more than its sum always are enough."""
    bottom = bottom_of(web)
    sort = sort_of(web, heap)
    found = free_sorts(web, sum(heap) + 1)
    return [row for other, row in found.items() if sort_with(sort, -1, other, bottom) not in found][0]


def is_free(web, heap):
    """Whether it is alike to a heap without a number below 0."""
    check_web_and_heap(web, heap)
    return free_one(web, heap) is not None


def free_heap(web, heap):
    """A heap alike to this one without a number below 0, None if it is in debt."""
    check_web_and_heap(web, heap)
    return free_one(web, heap)


def rank(web, heap):
    """The greatest number that can be taken in any way so that the heap stays free, -1 if it is in debt."""
    check_web_and_heap(web, heap)
    return sum(least_taking(web, heap)) - 1


def mate(web, heap):
    """The heap with the ties at each place less 2 less its number."""
    check_web_and_heap(web, heap)
    return tuple([ties_at(web, place) - 2 - number for place, number in zip(web.places, heap)])


def taking(web, heap):
    """Numbers for the places, one more in all than the rank, without which the heap is in debt."""
    check_web_and_heap(web, heap)
    return least_taking(web, heap)
