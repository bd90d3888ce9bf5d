"""Heights of places: exact ones, for what currents, heaps and pulls ask.

If some amount is put in at each place, and each tie carries the difference of the heights of its ends from the higher
one to the lower one, the heights follow once each piece has a ground, a place with height 0.
"""

from math import gcd

from webreckon.lots import lot_of_all
from webreckon.webs import in_order
from webreckon.webs import marks


def fraction(top, bottom):
    """In lowest terms; the bottom that is passed is above 0."""
    common = gcd(top, bottom)
    return (top // common, bottom // common)


def total(one, other):
    """The sum of two fractions."""
    return fraction(one[0] * other[1] + other[0] * one[1], one[1] * other[1])


def difference(one, other):
    """The first fraction less the second one."""
    return total(one, (-other[0], other[1]))


def ties_at(web, place):
    """How many ties that are no loops are at the place."""
    return len([tie for tie in web.ties if place in tie and tie[0] != tie[1]])


def equation_at(web, place, others, amount):
    """The factors of the heights of the other places and of this one among them, and the amount behind."""
    row = []
    for other in others:
        if other == place:
            row.append(ties_at(web, place))
        else:
            row.append(-web.ties.count(in_order(place + other)))
    return row + [amount]


def eliminated(row, pivot_row, at, before):
    """The row without its number at the index; the division by the pivot before leaves no rest (Bareiss)."""
    return [(pivot_row[at] * one - row[at] * other) // before for one, other in zip(row, pivot_row)]


def solved(rows):
    """The tops and the common bottom of what fulfils the equations; each has its amount as its last number.

    Each pivot is the number of trees of some web, so none is 0.
    """
    before = 1
    for at in range(len(rows)):
        pivot_row = rows[at]
        rows = [row if k == at else eliminated(row, pivot_row, at, before) for k, row in enumerate(rows)]
        before = pivot_row[at]
    return [row[-1] for row in rows], before


def heights_for(web, amounts, grounds):
    """The tops of the heights of all places, and their common bottom, above 0.

    Grounds are one place of each piece. Amounts there are not looked at: they are what the others leave over.
    """
    others = [place for place in web.places if place not in grounds]
    rows = []
    for place, amount in zip(web.places, amounts):
        if place in others:
            rows.append(equation_at(web, place, others, amount))
    tops, bottom = solved(rows)
    told = {place: top for place, top in zip(others, tops)}
    return [told.get(place, 0) for place in web.places], bottom


def pieces_marked(web):
    """For each place, in their order, the first place of its piece by all ties."""
    return marks(web, lot_of_all(web))


def first_places(web):
    """The first place of each piece, a string."""
    return "".join([place for place, mark in zip(web.places, pieces_marked(web)) if place == mark])
