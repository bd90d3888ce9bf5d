"""Pulls between places, the part of the trees that a tie has, and the mean steps of walks."""

from webreckon.heights import first_places
from webreckon.heights import fraction
from webreckon.heights import heights_for
from webreckon.heights import pieces_marked
from webreckon.heights import ties_at
from webreckon.heights import total
from webreckon.lots import are_joined
from webreckon.lots import lot_of_all
from webreckon.shapes import check_place
from webreckon.trees import trees_of
from webreckon.webs import check_web


def check_web_and_places(web, place, other_place):
    check_web(web)
    check_place(web, place)
    check_place(web, other_place)


def first_in_piece(web, place):
    return pieces_marked(web)[web.places.index(place)]


def are_apart(web, place, other_place):
    """Whether the places are in two pieces."""
    return not are_joined(web, lot_of_all(web), place, other_place)


def grounds_with(web, place):
    """The place, and the first places of the other pieces."""
    return place + first_places(web).replace(first_in_piece(web, place), "")


def heights_of_unit(web, place, other_place):
    """The heights if one unit is put in at the first place and taken out at the other one, which has 0."""
    amounts = [1 if other == place else 0 for other in web.places]
    tops, bottom = heights_for(web, amounts, grounds_with(web, other_place))
    return tuple([fraction(top, bottom) for top in tops])


def steps_to(web, place):
    """The steps to the place from all places, None from those in other pieces.

    From each other place they are one more than the mean of those from the ends of its ties: the same equations as
    those of heights if as much is put in at each place as ties are there.
    """
    amounts = [ties_at(web, other) for other in web.places]
    tops, bottom = heights_for(web, amounts, grounds_with(web, place))
    told = []
    for other, top in zip(web.places, tops):
        told.append(None if are_apart(web, place, other) else fraction(top, bottom))
    return tuple(told)


def steps_between(web, place, other_place):
    return steps_to(web, other_place)[web.places.index(place)]


def pull(web, place, other_place):
    """The pull between two places, None if they are in two pieces."""
    check_web_and_places(web, place, other_place)
    if are_apart(web, place, other_place):
        return None
    return heights_of_unit(web, place, other_place)[web.places.index(place)]


def heights_between(web, place, other_place):
    """The heights that make the pull, 0 at the other place and in other pieces; None likewise."""
    check_web_and_places(web, place, other_place)
    if are_apart(web, place, other_place):
        return None
    return heights_of_unit(web, place, other_place)


def shares(web):
    """For each tie the part of all trees that have it."""
    check_web(web)
    trees = trees_of(web)
    told = []
    for index in range(len(web.ties)):
        told.append(fraction(len([tree for tree in trees if index in tree]), len(trees)))
    return tuple(told)


def steps(web, place, other_place):
    """The mean number of steps from the first place to the other one, None if they are in two pieces."""
    check_web_and_places(web, place, other_place)
    return steps_between(web, place, other_place)


def there_and_back(web, place, other_place):
    """The steps there and back together, None likewise."""
    check_web_and_places(web, place, other_place)
    if are_apart(web, place, other_place):
        return None
    return total(steps_between(web, place, other_place), steps_between(web, other_place, place))
