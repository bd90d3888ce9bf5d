"""Amounts, ways and herds in the document's own words, gone through slowly."""

from itertools import combinations, permutations, product

import oracle


def herds_between(web, place, other):
    return [herd for herd in oracle.all_herds(web.places) if place in herd and other not in herd]


def width(web, rooms, herd):
    return sum(room for tie, room in zip(web.ties, rooms) if (tie[0] in herd) != (tie[1] in herd))


def least_width(web, rooms, place, other):
    return min(width(web, rooms, herd) for herd in herds_between(web, place, other))


def flows_out(web, row):
    """What goes out of each place less what comes in."""
    told = dict.fromkeys(web.places, 0)
    for tie, number in zip(web.ties, row):
        told[tie[0]] += number
        told[tie[1]] -= number
    return told


def carries(web, rooms, row, place, other):
    """How much the tuple carries from the one to the other; None if it carries nothing that may be."""
    if len(row) != len(rooms) or any(abs(number) > room for number, room in zip(row, rooms)):
        return None
    out = flows_out(web, row)
    if any(out[at] for at in web.places if at not in (place, other)):
        return None
    return out[place]


def greatest_amount(web, rooms, place, other):
    """Over all tuples, so for small rooms alone."""
    rows = product(*(range(-room, room + 1) for room in rooms))
    found = [carries(web, rooms, row, place, other) for row in rows]
    return max(number for number in found if number is not None)


def places_passed(web, order, place, other):
    """The places that the ties, one after the other, lead along; None if they do not lead from the one to the other."""
    passed = place
    for index in order:
        tie = web.ties[index]
        if passed[-1] not in tie:
            return None
        end = tie[1] if tie[0] == passed[-1] else tie[0]
        if end in passed:
            return None
        passed += end
    return passed if passed[-1] == other else None


def places_of_way(web, lot, place, other):
    for order in permutations(lot):
        passed = places_passed(web, order, place, other)
        if passed is not None:
            return passed
    return None


def is_way(web, lot, place, other):
    return 0 < len(lot) < len(web.places) and places_of_way(web, lot, place, other) is not None


def ways(web, place, other):
    indexes = range(len(web.ties))
    lots = [lot for many in range(1, len(web.places)) for lot in combinations(indexes, many)]
    return [lot for lot in lots if is_way(web, lot, place, other)]


def are_apart(lots):
    indexes = [index for lot in lots for index in lot]
    return len(indexes) == len(set(indexes))


def are_clear(web, lots, place, other):
    inner = [at for lot in lots for at in set(places_of_way(web, lot, place, other)) - {place, other}]
    return are_apart(lots) and len(inner) == len(set(inner))


def most_of(lots, are_so, chosen=()):
    """The greatest number of the lots that are so together; what is so stays so with fewer of them."""
    best = len(chosen)
    for at, lot in enumerate(lots):
        if are_so([*chosen, lot]):
            best = max(best, most_of(lots[at + 1:], are_so, (*chosen, lot)))
    return best


def parting_herds(web, place, other):
    """All herds without both one place of which each way passes."""
    rest = "".join(at for at in web.places if at not in (place, other))
    passed = [places_of_way(web, lot, place, other) for lot in ways(web, place, other)]
    return [herd for herd in oracle.all_herds(rest) if all(set(herd) & set(row) for row in passed)]


def least_on_the_way(triples, place, other):
    """The least number on the way between two places of the tree; None without a way."""
    best = {place: None}
    fresh = [place]
    while fresh:
        at = fresh.pop()
        for one, two, number in triples:
            for start, end in ((one, two), (two, one)):
                if start == at and end not in best:
                    best[end] = number if best[at] is None else min(best[at], number)
                    fresh.append(end)
    return best.get(other)


def herds_from_first(web):
    herds = [herd for herd in oracle.all_herds(web.places) if web.places[0] in herd and herd != web.places]
    return {herd: width(web, (1,) * len(web.ties), herd) for herd in herds}
