"""Currents: as much comes in as goes out at each place; by rests, within bounds, and as parts of any values."""

from math import lcm

from webreckon.heights import difference
from webreckon.heights import first_places
from webreckon.heights import fraction
from webreckon.heights import heights_for
from webreckon.leanings import backward_in
from webreckon.limits import MOST_REST
from webreckon.lots import all_herds
from webreckon.lots import crossing
from webreckon.lots import full_rank
from webreckon.lots import is_even
from webreckon.lots import outside_of
from webreckon.scores import leaning_for
from webreckon.shapes import check_bounds
from webreckon.shapes import check_number
from webreckon.shapes import check_values
from webreckon.table import counts_of_lots
from webreckon.table import sum_of_powers
from webreckon.trees import exchanges_of
from webreckon.trees import trees_of
from webreckon.webs import check_web

LEAST_REST = 2
ENOUGH_REST = 6


def outflow(web, values):
    """For each place, in their order, what goes out less what comes in."""
    out = {place: 0 for place in web.places}
    for tie, value in zip(web.ties, values):
        out[tie[0]] += value
        out[tie[1]] -= value
    return list(out.values())


def outflow_of_fractions(web, values):
    """The tops of what goes out less what comes in, and their common bottom."""
    bottom = 1
    for value in values:
        bottom = lcm(bottom, value[1])
    return outflow(web, [value[0] * (bottom // value[1]) for value in values]), bottom


def counts_of_currents(web):
    """A lot stands for the currents that are 0 outside of it, as many as its spare leaves choices."""
    rank_of_all = full_rank(web)
    spare_of_all = len(web.ties) - rank_of_all
    counts = [0] * (spare_of_all + 1)
    for lack, row in enumerate(counts_of_lots(web)):
        for spare_of_lot, many in enumerate(row):
            missing = lack + spare_of_all - spare_of_lot
            counts[spare_of_lot] += many if missing % 2 == 0 else -many
    return counts


def least_rest_of(web):
    """The least number for which there is a current, none 0; if there is any, 6 is enough (Seymour)."""
    counts = counts_of_currents(web)
    for number in range(LEAST_REST, ENOUGH_REST + 1):
        if sum_of_powers(counts, number) > 0:
            return number
    return None


def current_round(web, tree, index):
    """The current that carries one along the tie and back through the tree."""
    ring = (index,) + exchanges_of(web, tree, index)
    backward = backward_in(web, ring)
    row = [0] * len(web.ties)
    for other in ring:
        row[other] = -1 if other in backward else 1
    return row


def some_rests(web, number):
    """Some current by rests, none 0, where there is one: each is a sum of currents round the ties outside a tree."""
    tree = trees_of(web)[0]
    rows = [[0] * len(web.ties)]
    for index in outside_of(web, tree):
        ring = current_round(web, tree, index)
        rows = [
            [(value + times * part) % number for value, part in zip(row, ring)]
            for row in rows for times in range(1, number)
        ]
    return [row for row in rows if 0 not in row][0]


def current_with_rests(web, rests, number):
    """A current that has each rest as it is or less by the number; there always is one (Tutte).

    Read as a leaning, with a plus for each rest that stays as it is, the choice has the score row that follows from
    what goes out of each place by the rests; any leaning with this row will do.
    """
    firsts = "".join([tie[0] for tie in web.ties])
    row = [firsts.count(place) - out // number for place, out in zip(web.places, outflow(web, rests))]
    leaning = leaning_for(web, tuple(row))
    return tuple([rest if sign == "+" else rest - number for rest, sign in zip(rests, leaning)])


def need_of(web, bounds, herd):
    """How much more must go out of the herd than can come in."""
    need = 0
    for tie, (low, high) in zip(web.ties, bounds):
        if tie[0] in herd and tie[1] not in herd:
            need += low
        elif tie[1] in herd and tie[0] not in herd:
            need -= high
    return need


def barring_of(web, bounds):
    """The first herd that bars them, None if there is none."""
    for herd in all_herds(web):
        if need_of(web, bounds, herd) > 0:
            return herd
    return None


def least_value(web, bounds, index):
    """The least value of a tie with which there still is a current: what the herds that it enters need from it."""
    tie = web.ties[index]
    low, high = bounds[index]
    needs = [low]
    for herd in all_herds(web):
        if tie[1] in herd and tie[0] not in herd:
            needs.append(need_of(web, bounds, herd) + high)
    return max(needs)


def heights_of_part(web, values):
    """The heights, 0 at the first place of each piece, of the rise that leaves a current of the values."""
    out, bottom = outflow_of_fractions(web, values)
    tops, many = heights_for(web, [-amount for amount in out], first_places(web))
    return tuple([fraction(top, many * bottom) for top in tops])


def rise_with(web, heights):
    told = {place: height for place, height in zip(web.places, heights)}
    return tuple([difference(told[tie[1]], told[tie[0]]) for tie in web.ties])


def current_counts(web):
    """The numbers that give the number of currents by any rests, none 0."""
    check_web(web)
    return tuple(counts_of_currents(web))


def count_currents(web, number):
    """How many currents by rests of the number there are, none 0."""
    check_web(web)
    check_number(number, LEAST_REST, MOST_REST)
    return sum_of_powers(counts_of_currents(web), number)


def some_current(web, number):
    """A current of integers less than the number in size, none 0; None if there is none."""
    check_web(web)
    check_number(number, LEAST_REST, MOST_REST)
    least = least_rest_of(web)
    if least is None or least > number:
        return None
    return current_with_rests(web, some_rests(web, least), least)


def least_rest(web):
    """The least number for which there is such a current, None if there is none."""
    check_web(web)
    return least_rest_of(web)


def bounded(web, bounds):
    """A current of integers within the bounds, None if there is none. Tie by tie the least one that can be taken."""
    check_web(web)
    check_bounds(web, bounds)
    if barring_of(web, bounds) is not None:
        return None
    narrowed = list(bounds)
    for index in range(len(web.ties)):
        value = least_value(web, narrowed, index)
        narrowed[index] = (value, value)
    return tuple([low for low, _ in narrowed])


def barring_herd(web, bounds):
    """A herd that bars the bounds, None if there is a current within them."""
    check_web(web)
    check_bounds(web, bounds)
    return barring_of(web, bounds)


def parted(web, values):
    """The current and the rise that the values are the sum of."""
    check_web(web)
    check_values(web, values)
    rise = rise_with(web, heights_of_part(web, values))
    current = tuple([difference(value, part) for value, part in zip(values, rise)])
    return (current, rise)


def heights_of(web, values):
    """The heights for which the values are the rise, None if they are none."""
    check_web(web)
    check_values(web, values)
    heights = heights_of_part(web, values)
    return heights if rise_with(web, heights) == values else None


def even_cuts(web):
    """The tuple of all lots that are both even and two-sided, ascending."""
    check_web(web)
    two_sided = {crossing(web, herd): True for herd in all_herds(web)}
    return tuple(sorted([lot for lot in two_sided if is_even(web, lot)]))
