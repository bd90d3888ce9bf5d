"""Score rows, dyes and currents in the document's own words, gone through slowly."""

from fractions import Fraction
from itertools import product

import oracle


def score(web, leaning):
    tails = [tie[0] if sign == "+" else tie[1] for tie, sign in zip(web.ties, leaning)]
    return tuple(tails.count(place) for place in web.places)


def leanings(web):
    return ["".join(signs) for signs in product("+-", repeat=len(web.ties))]


def bars_row(web, row, herd):
    if herd == "" and sum(row) != len(web.ties):
        return True
    inside = sum(1 for tie in web.ties if set(tie) <= set(herd))
    return sum(number for place, number in zip(web.places, row) if place in herd) < inside


def distance(row, other):
    return sum(abs(one - two) for one, two in zip(row, other))


def dyes(web, number):
    found = []
    for figures in product("1234567"[:number], repeat=len(web.places)):
        told = dict(zip(web.places, figures))
        if all(told[tie[0]] != told[tie[1]] for tie in web.ties):
            found.append("".join(figures))
    return tuple(found)


def agrees(dye, told):
    return all(figure in ("?", own) for figure, own in zip(told, dye))


def rising_pairs(web, number):
    told = oracle.Leanings(web)
    count = 0
    for leaning in told.all:
        if told.is_ringless(leaning):
            arrows = [told.arrow(leaning, index) for index in told.lots.all]
            for row in product(range(1, number + 1), repeat=len(web.places)):
                figures = dict(zip(web.places, row))
                count += all(figures[arrow[0]] <= figures[arrow[1]] for arrow in arrows)
    return count


def left_over(web, values):
    """For each place what goes out less what comes in."""
    rows = []
    for place in web.places:
        out = sum(value for tie, value in zip(web.ties, values) if tie[0] == place)
        rows.append(out - sum(value for tie, value in zip(web.ties, values) if tie[1] == place))
    return rows


def is_current(web, values):
    return not any(left_over(web, values))


def currents_by_rests(web, number):
    """How many there are, none 0."""
    rows = product(range(1, number), repeat=len(web.ties))
    return sum(1 for row in rows if all(left % number == 0 for left in left_over(web, row)))


def has_current(web, number):
    """Whether there is one of integers less than the number in size, none 0."""
    numbers = [worth for worth in range(1 - number, number) if worth]
    return any(is_current(web, row) for row in product(numbers, repeat=len(web.ties)))


def bars_bounds(web, bounds, herd):
    out = sum(low for tie, (low, _) in zip(web.ties, bounds) if tie[0] in herd and tie[1] not in herd)
    return out - sum(high for tie, (_, high) in zip(web.ties, bounds) if tie[1] in herd and tie[0] not in herd) > 0


def is_within(values, bounds):
    return all(low <= value <= high for value, (low, high) in zip(values, bounds))


def is_rise(web, values, heights):
    told = dict(zip(web.places, heights))
    return all(told[tie[1]] - told[tie[0]] == value for tie, value in zip(web.ties, values))


def heights(web, values):
    """The heights of a rise, 0 at the first place of each piece, found along the ties; None if it is none."""
    told = {piece[0]: Fraction(0) for piece in oracle.pieces(web, range(len(web.ties)))}
    for _ in web.places:
        for tie, value in zip(web.ties, values):
            if tie[0] in told:
                told.setdefault(tie[1], told[tie[0]] + value)
            elif tie[1] in told:
                told[tie[0]] = told[tie[1]] - value
    row = [told[place] for place in web.places]
    return row if is_rise(web, values, row) else None
