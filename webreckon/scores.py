"""Score rows: how many arrows of a leaning leave each place."""

from webreckon.leanings import arrows_of
from webreckon.leanings import leanings_of
from webreckon.leanings import ways_along
from webreckon.lots import all_herds
from webreckon.shapes import check_leaning
from webreckon.shapes import check_row
from webreckon.webs import check_web


def check_web_and_row(web, row):
    check_web(web)
    check_row(web, row)


def score_of(web, leaning):
    tails = "".join([arrow[0] for arrow in arrows_of(web, leaning)])
    return tuple([tails.count(place) for place in web.places])


def leanings_by_row(web):
    """A dict from each score row to its leanings, in the order of strings."""
    found = {}
    for leaning in leanings_of(web):
        found.setdefault(score_of(web, leaning), []).append(leaning)
    return found


def ties_within(web, herd):
    """How many ties have both ends in the herd."""
    return len([tie for tie in web.ties if tie[0] in herd and tie[1] in herd])


def score_within(web, row, herd):
    return sum([number for place, number in zip(web.places, row) if place in herd])


def bars_row(web, row, herd):
    """Whether the herd has less in the row than ties; the empty one bars a wrong sum."""
    if not herd:
        return sum(row) != len(web.ties)
    return score_within(web, row, herd) < ties_within(web, herd)


def barring_of(web, row):
    """The first herd that bars the row, the empty one ahead of all others; None if there is none."""
    for herd in all_herds(web):
        if bars_row(web, row, herd):
            return herd
    return None


def distance_of(row, other):
    return sum([abs(one - two) for one, two in zip(row, other)])


def distances(web, row):
    """A pair for each score row: its distance, and the score row itself."""
    return [(distance_of(row, other), other) for other in leanings_by_row(web)]


def ring_among(arrows, indexes):
    """A ring with the first one of some arrows, of which as many leave each place as come to it."""
    first = indexes[0]
    tail, head = arrows[first]
    way = ways_along([arrows[index] for index in indexes], head)[tail]
    return tuple(sorted([first] + [indexes[at] for at in way]))


def row_of(web, leaning):
    """The score row of the leaning."""
    check_web(web)
    check_leaning(web, leaning)
    return score_of(web, leaning)


def is_row(web, row):
    """Whether it is a score row."""
    check_web_and_row(web, row)
    return barring_of(web, row) is None


def leaning_for(web, row):
    """A leaning with this score row, None if there is none."""
    check_web_and_row(web, row)
    found = leanings_by_row(web)
    return found[row][0] if row in found else None


def barring(web, row):
    """A herd that bars the row, None if it is a score row."""
    check_web_and_row(web, row)
    return barring_of(web, row)


def all_rows(web):
    """The tuple of all score rows, ascending."""
    check_web(web)
    return tuple(sorted(leanings_by_row(web)))


def count_rows(web):
    check_web(web)
    return len(leanings_by_row(web))


def count_leanings(web, row):
    """How many leanings have this score row."""
    check_web_and_row(web, row)
    return len(leanings_by_row(web).get(row, []))


def turning_rings(web, leaning, other_leaning):
    """Rings of arrows of the first leaning that, all turned, make the other one; None if their rows differ."""
    check_web(web)
    check_leaning(web, leaning)
    check_leaning(web, other_leaning)
    if score_of(web, leaning) != score_of(web, other_leaning):
        return None
    arrows = arrows_of(web, leaning)
    left = [index for index in range(len(web.ties)) if leaning[index] != other_leaning[index]]
    lots = []
    while left:
        ring = ring_among(arrows, left)
        lots.append(ring)
        left = [index for index in left if index not in ring]
    return tuple(lots)


def distance_to_row(web, row):
    """The least distance of a score row."""
    check_web_and_row(web, row)
    return min(distances(web, row))[0]


def nearest_row(web, row):
    """The first score row with the least distance."""
    check_web_and_row(web, row)
    return min(distances(web, row))[1]
