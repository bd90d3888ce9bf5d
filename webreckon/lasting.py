"""Lasting heaps: how heaps settle into a bank, the lasting ones, and the group that they are."""

from math import gcd

from webreckon.errors import Refused
from webreckon.heaps import check_heap_and_bank
from webreckon.heaps import check_not_below
from webreckon.heaps import check_whole
from webreckon.heaps import heap_behind
from webreckon.heaps import heap_with_fuses
from webreckon.heaps import is_below
from webreckon.heaps import is_least_heap
from webreckon.heaps import least_of
from webreckon.heaps import most_settled
from webreckon.heights import equation_at
from webreckon.heights import heights_for
from webreckon.heights import ties_at
from webreckon.shapes import check_heap
from webreckon.shapes import check_place
from webreckon.table import across
from webreckon.trees import trees_of
from webreckon.webs import check_web


def gives_at_least(web, heap, bank):
    """How often each place must give so that in the end it has less than the ties at it.

    It is enough to count what leaves too much: whoever gives more than these, does so for what the others give.
    """
    amounts = [number - most for number, most in zip(heap, most_settled(web))]
    tops, bottom = heights_for(web, amounts, bank)
    return [max(0, -(-top // bottom)) for top in tops]


def gives_at_once(web, heap, bank):
    """How often each place but the bank can give from what it has."""
    gives = []
    for place, number in zip(web.places, heap):
        gives.append(0 if place == bank else max(0, number // ties_at(web, place)))
    return gives


def settle(web, heap, bank):
    """The settled heap and the gives. As the order of giving does not matter, most of it is done ahead in one."""
    gives = gives_at_least(web, heap, bank)
    found = heap_behind(web, heap, gives)
    more = gives_at_once(web, found, bank)
    while any(more):
        gives = [often + again for often, again in zip(gives, more)]
        found = heap_behind(web, found, more)
        more = gives_at_once(web, found, bank)
    return (found, tuple(gives))


def opposite(web, heap, bank):
    """At each place the ties at it less 1 less its number, 0 at the bank: what turns lasting heaps into least ones."""
    told = []
    for place, number, most in zip(web.places, heap, most_settled(web)):
        told.append(0 if place == bank else most - number)
    return tuple(told)


def is_lasting_heap(web, heap, bank):
    """The opposite of a heap that is not settled is below 0 somewhere, and so not least."""
    return not is_below(web, heap, bank) and is_least_heap(web, opposite(web, heap, bank), bank)


def lasting_alike(web, heap, bank):
    """The lasting heap that is alike to this one but for the bank."""
    return opposite(web, least_of(web, opposite(web, heap, bank), bank), bank)


def check_lasting(web, heap, bank):
    if not is_lasting_heap(web, heap, bank):
        raise Refused(heap)


def lessened(rows, at, column):
    """From each other row this one is taken away as often as its number in the column is there."""
    least = rows[at]
    found = []
    for k, row in enumerate(rows):
        times = 0 if k == at else row[column] // least[column]
        found.append([number - times * other for number, other in zip(row, least)])
    return found


def least_number(rows):
    """The least size of a number that is not 0, and where it stands."""
    sizes = []
    for at, row in enumerate(rows):
        for column, number in enumerate(row):
            if number != 0:
                sizes.append((abs(number), at, column))
    return min(sizes)


def without_row_and_column(rows, at, column):
    return [row[:column] + row[column + 1:] for k, row in enumerate(rows) if k != at]


def is_alone(rows, at, column):
    """Whether the number there is the only one in its row and in its column that is not 0."""
    others = [row[column] for k, row in enumerate(rows) if k != at]
    return not any(others) and not any(rows[at][:column] + rows[at][column + 1:])


def split_off(rows):
    """The number that divides all that the rows can be turned into, and the rows that are left without it."""
    while True:
        size, at, column = least_number(rows)
        rows = lessened(rows, at, column)
        rows = across(lessened(across(rows), column, at))
        undivided = [row for row in rows if any([number % size != 0 for number in row])]
        if not undivided:
            return size, without_row_and_column(rows, at, column)
        if is_alone(rows, at, column):
            # Only what stands in its own row or column can make a lesser number of it.
            rows[at] = [number + other for number, other in zip(rows[at], undivided[0])]


def settled(web, heap, bank):
    """The heap settled, and the gives."""
    check_heap_and_bank(web, heap, bank)
    check_not_below(web, heap, bank)
    return settle(web, heap, bank)


def is_lasting(web, heap, bank):
    """Whether the heap is settled and lasting."""
    check_heap_and_bank(web, heap, bank)
    check_not_below(web, heap, bank)
    return is_lasting_heap(web, heap, bank)


def lasting_heaps(web, bank):
    """The tuple of all lasting heaps, ascending: one for each tree."""
    check_web(web)
    check_place(web, bank)
    check_whole(web)
    return tuple(sorted([opposite(web, heap_with_fuses(web, tree, bank), bank) for tree in trees_of(web)]))


def level(web, heap, bank):
    """The level of a lasting heap."""
    check_heap_and_bank(web, heap, bank)
    check_lasting(web, heap, bank)
    told = [number for place, number in zip(web.places, heap) if place != bank]
    return sum(told) + ties_at(web, bank) - len(web.ties)


def summed(web, heap, other_heap, bank):
    """The sum of two lasting heaps."""
    check_web(web)
    check_heap(web, heap)
    check_heap(web, other_heap)
    check_place(web, bank)
    check_whole(web)
    check_lasting(web, heap, bank)
    check_lasting(web, other_heap, bank)
    return lasting_alike(web, [one + other for one, other in zip(heap, other_heap)], bank)


def neutral(web, bank):
    """The lasting heap that changes none."""
    check_web(web)
    check_place(web, bank)
    check_whole(web)
    return lasting_alike(web, [0] * len(web.places), bank)


def order_of_heap(web, heap, bank):
    """The least number of lasting heaps like this one whose sum is the neutral one, which gives alone can bring."""
    check_heap_and_bank(web, heap, bank)
    check_lasting(web, heap, bank)
    tops, bottom = heights_for(web, heap, bank)
    common = bottom
    for top in tops:
        common = gcd(common, top)
    return bottom // common


def cyclic_parts(web):
    """The orders of the rings whose product the group of lasting heaps is, ascending."""
    check_web(web)
    check_whole(web)
    others = web.places[1:]
    rows = [equation_at(web, place, others, 0)[:-1] for place in others]
    parts = []
    while rows:
        part, rows = split_off(rows)
        parts.append(part)
    return tuple([part for part in parts if part > 1])
