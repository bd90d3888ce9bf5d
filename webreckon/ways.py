"""Ways: how much goes through a web at most and what bars more, ways that have nothing in common, cut trees."""

from webreckon.errors import Refused
from webreckon.lots import all_herds
from webreckon.lots import are_joined
from webreckon.lots import crossing
from webreckon.shapes import check_place
from webreckon.shapes import check_rooms
from webreckon.webs import check_web
from webreckon.webs import in_order
from webreckon.webs import other_end


def check_ends(web, place, other_place):
    check_place(web, place)
    check_place(web, other_place)
    if place == other_place:
        raise Refused(place)


def check_web_and_rooms(web, rooms):
    check_web(web)
    check_rooms(web, rooms)


def width_of(web, rooms, herd):
    return sum([rooms[index] for index in crossing(web, herd)])


def least_width(web, rooms, place, other_place):
    """The least width of a herd with the first place, without the other one, and the least one of these herds.

    What two herds of the least width have in common has it, too, so just one of them has the fewest places.
    """
    herds = [herd for herd in all_herds(web) if place in herd and other_place not in herd]
    width, _, herd = min([(width_of(web, rooms, herd), len(herd), herd) for herd in herds])
    return width, herd


def rooms_of_one(web):
    """With these an amount is a number of ways that are apart."""
    return (1,) * len(web.ties)


def steps_with_room(web, rooms, row, place):
    """From the place to each one where more can go, the steps of a shortest way: a tie, and 1 or -1 along it."""
    ways = {place: ()}
    fresh = [place]
    while fresh:
        start = fresh.pop(0)
        for index, tie in enumerate(web.ties):
            sign = 1 if tie[0] == start else -1
            end = other_end(web, index, start)
            if start in tie and end not in ways and sign * row[index] < rooms[index]:
                ways[end] = ways[start] + ((index, sign),)
                fresh.append(end)
    return ways


def carried_by_steps(web, rooms, place, other_place):
    """More is carried as long as it can be; shortest ways make this a short while (Edmonds and Karp)."""
    row = [0] * len(web.ties)
    ways = steps_with_room(web, rooms, row, place)
    while other_place in ways:
        steps = ways[other_place]
        more = min([rooms[index] - sign * row[index] for index, sign in steps])
        for index, sign in steps:
            row[index] += sign * more
        ways = steps_with_room(web, rooms, row, place)
    return tuple(row)


def longer_walks(web, passed, lot):
    """Walks of one step more than that which passed these places along these ties, to places not passed."""
    walks = []
    for index, tie in enumerate(web.ties):
        end = other_end(web, index, passed[-1])
        if passed[-1] in tie and end not in passed:
            walks.append((passed + end, lot + (index,)))
    return walks


def ways_between(web, place, other_place):
    """All ways, short ones first: the string of the places passed, and the lot."""
    found = []
    walks = [(place, ())]
    while walks:
        found.extend([(passed, tuple(sorted(lot))) for passed, lot in walks if passed[-1] == other_place])
        longer = []
        for passed, lot in walks:
            if passed[-1] != other_place:
                longer.extend(longer_walks(web, passed, lot))
        walks = longer
    return found


def some_of(ways, many):
    """Lots of so many of the ways, no two of which have a common mark; None if there are none."""
    if many == 0:
        return ()
    for at, (lot, marks) in enumerate(ways):
        rest = [way for way in ways[at + 1:] if not any([mark in marks for mark in way[1]])]
        others = some_of(rest, many - 1)
        if others is not None:
            return (lot,) + others
    return None


def is_parting(web, herd, place, other_place):
    """Whether each way but a tie that joins both passes a place of the herd."""
    joining = in_order(place + other_place)
    lot = []
    for index, tie in enumerate(web.ties):
        if tie != joining and tie[0] not in herd and tie[1] not in herd:
            lot.append(index)
    return not are_joined(web, tuple(lot), place, other_place)


def least_parting(web, place, other_place):
    """The first of the least herds of other places that part both, ties that join both not being looked at."""
    herds = [herd for herd in all_herds(web) if place not in herd and other_place not in herd]
    parting = [herd for herd in herds if is_parting(web, herd, place, other_place)]
    return min([(len(herd), herd) for herd in parting])[1]


def number_of_clear(web, place, other_place):
    """Each tie that joins both is a way by itself; besides there are as many ways as places that part both (Menger)."""
    return web.ties.count(in_order(place + other_place)) + len(least_parting(web, place, other_place))


def herds_from_first(web):
    """All herds with the first place, not of all places, with the number of ties that lead out of them."""
    herds = [herd for herd in all_herds(web) if web.places[0] in herd and herd != web.places]
    return [(len(crossing(web, herd)), herd) for herd in herds]


def amount(web, rooms, place, other_place):
    """The greatest amount from the first place to the other one, which is the least width."""
    check_web_and_rooms(web, rooms)
    check_ends(web, place, other_place)
    return least_width(web, rooms, place, other_place)[0]


def carried(web, rooms, place, other_place):
    """What each tie carries so that the greatest amount goes from the first place to the other one."""
    check_web_and_rooms(web, rooms)
    check_ends(web, place, other_place)
    return carried_by_steps(web, rooms, place, other_place)


def narrowest(web, rooms, place, other_place):
    """The herd of the least width with the first place, without the other one, that has the fewest places."""
    check_web_and_rooms(web, rooms)
    check_ends(web, place, other_place)
    return least_width(web, rooms, place, other_place)[1]


def count_apart(web, place, other_place):
    """The greatest number of ways no two of which have a common tie."""
    check_web(web)
    check_ends(web, place, other_place)
    return least_width(web, rooms_of_one(web), place, other_place)[0]


def count_clear(web, place, other_place):
    """The greatest number of ways no two of which have a common tie, or a common place but for both ends."""
    check_web(web)
    check_ends(web, place, other_place)
    return number_of_clear(web, place, other_place)


def apart(web, place, other_place):
    """A tuple of as many ways as can be that are apart."""
    check_web(web)
    check_ends(web, place, other_place)
    many = least_width(web, rooms_of_one(web), place, other_place)[0]
    return some_of([(lot, lot) for _, lot in ways_between(web, place, other_place)], many)


def clear(web, place, other_place):
    """A tuple of as many ways as can be that are clear."""
    check_web(web)
    check_ends(web, place, other_place)
    ways = [(lot, lot + tuple(passed[1:-1])) for passed, lot in ways_between(web, place, other_place)]
    return some_of(ways, number_of_clear(web, place, other_place))


def parting_places(web, place, other_place):
    """A least herd one place of which each way passes, None if a tie joins both."""
    check_web(web)
    check_ends(web, place, other_place)
    if in_order(place + other_place) in web.ties:
        return None
    return least_parting(web, place, other_place)


def cut_tree(web, rooms):
    """A tree of places; the least number on the way between two of them is the greatest amount between them.

    An amount is never less than the least one on any row of places from the one to the other. So it is enough to
    join place by place what has the greatest amount.
    """
    check_web_and_rooms(web, rooms)
    joined = web.places[0]
    told = []
    while len(joined) < len(web.places):
        left = [end for end in web.places if end not in joined]
        steps = [(least_width(web, rooms, start, end)[0], start, end) for start in joined for end in left]
        width, place, other_place = max(steps)
        told.append((place, other_place, width))
        joined += other_place
    return tuple(told)


def joined_by(web):
    """The least number of ties without which the web is not whole, None for one place."""
    check_web(web)
    return min([many for many, _ in herds_from_first(web)], default=None)


def least_herds(web):
    """The tuple of all herds with the first place out of which so many ties lead, the least ones first."""
    check_web(web)
    herds = herds_from_first(web)
    least = min([many for many, _ in herds], default=None)
    found = sorted([(len(herd), herd) for many, herd in herds if many == least])
    return tuple([herd for _, herd in found])
