"""Heaps, walkers and pulls in the document's own words, gone through slowly."""

from fractions import Fraction
from itertools import product

import oracle


def ties_at(web, place):
    return [index for index, tie in enumerate(web.ties) if place in tie]


def other_end(web, index, place):
    return web.ties[index].replace(place, "") or place


def given(web, heap, place, times=1):
    """The heap when the place has given so often, below 0 for the other way round."""
    told = dict(zip(web.places, heap))
    for index in ties_at(web, place):
        told[place] -= times
        told[other_end(web, index, place)] += times
    return tuple(told[place] for place in web.places)


def behind(web, heap, gives):
    for place, times in zip(web.places, gives):
        heap = given(web, heap, place, times)
    return heap


def behind_herd(web, heap, herd):
    for place in herd:
        heap = given(web, heap, place)
    return heap


def least_below(web, heap, places):
    """The least number of the heap at the places; 0 without any."""
    return min((number for place, number in zip(web.places, heap) if place in places), default=0)


def herds_without(web, bank):
    return [herd for herd in oracle.all_herds(web.places) if herd and bank not in herd]


def is_least(web, heap, bank):
    others = web.places.replace(bank, "")
    if least_below(web, heap, others) < 0:
        return False
    return all(least_below(web, behind_herd(web, heap, herd), herd) < 0 for herd in herds_without(web, bank))


def least(web, heap, bank):
    """Places in debt take, then herds give, one after the other, until nothing is left to do."""
    others = web.places.replace(bank, "")
    while True:
        below = [place for place in others if least_below(web, heap, place) < 0]
        if below:
            heap = given(web, heap, below[0], -1)
            continue
        herds = [herd for herd in herds_without(web, bank)
                 if least_below(web, behind_herd(web, heap, herd), herd) >= 0]
        if not herds:
            return heap
        heap = behind_herd(web, heap, herds[-1])


def burning(web, heap, bank):
    told = dict(zip(web.places, heap))
    burns, fuses, burnt = [bank], [], set()
    while True:
        ties = [index for index, tie in enumerate(web.ties)
                if index not in burnt and (tie[0] in burns) != (tie[1] in burns)]
        if not ties:
            return "".join(burns), tuple(fuses)
        burnt.add(max(ties))
        end = [place for place in web.ties[max(ties)] if place not in burns][0]
        if len([index for index in burnt if end in web.ties[index]]) > told[end]:
            burns.append(end)
            fuses.append(max(ties))


def settled(web, heap, bank, dice):
    """Place by place, in an order that the dice tell."""
    gives = dict.fromkeys(web.places, 0)
    while True:
        places = [place for place, number in zip(web.places, heap)
                  if place != bank and number >= len(ties_at(web, place))]
        if not places:
            return heap, tuple(gives[place] for place in web.places)
        place = places[dice.below(len(places))]
        heap = given(web, heap, place)
        gives[place] += 1


def is_settled(web, heap, bank):
    return all(place == bank or number < len(ties_at(web, place)) for place, number in zip(web.places, heap))


def is_lasting(web, heap, bank, dice):
    if not is_settled(web, heap, bank):
        return False
    found, _ = settled(web, given(web, heap, bank), bank, dice)
    return all(place == bank or one == other for place, one, other in zip(web.places, heap, found))


def lasting_heaps(web, bank, dice):
    rows = [range(1) if place == bank else range(len(ties_at(web, place))) for place in web.places]
    return [heap for heap in product(*rows) if is_lasting(web, heap, bank, dice)]


def without_bank(web, heap, bank):
    return tuple(0 if place == bank else number for place, number in zip(web.places, heap))


def hands(web, tree, bank):
    found, reached = {}, {bank}
    while len(reached) < len(web.places):
        for index in tree:
            inside = [end for end in web.ties[index] if end in reached]
            if len(inside) == 1:
                place = other_end(web, index, inside[0])
                found[place] = index
                reached.add(place)
    return found


def step(web, turned, place):
    """Turns the hand of the place; where the walker is then."""
    ties = ties_at(web, place)
    turned[place] = ties[(ties.index(turned[place]) + 1) % len(ties)]
    return other_end(web, turned[place], place)


def walked(web, tree, place, bank):
    turned, steps = hands(web, tree, bank), 0
    while place != bank:
        place = step(web, turned, place)
        steps += 1
    return tuple(sorted(turned.values())), steps


def led(web, tree, heap, bank, dice):
    """Walkers that go one after the other, in an order that the dice tell."""
    waiting = [place for place, many in zip(web.places, heap) for _ in range(many) if place != bank]
    while waiting:
        tree, _ = walked(web, tree, waiting.pop(dice.below(len(waiting))), bank)
    return tree


def heaps_with_sum(many, total):
    """All tuples of so many numbers from 0 on with the sum."""
    if many == 1:
        return [(total,)]
    return [(first, *rest) for first in range(total + 1) for rest in heaps_with_sum(many - 1, total - first)]


class Frees:
    """Which heaps are free, told by all heaps without a number below 0 and what is least and alike to them."""

    def __init__(self, web):
        self.web = web
        self.bank = web.places[0]
        self.kept = {}

    def least(self, heap):
        return least(self.web, heap, self.bank)

    def free(self, total):
        if total not in self.kept:
            rows = heaps_with_sum(len(self.web.places), total) if total >= 0 else []
            self.kept[total] = {self.least(heap) for heap in rows}
        return self.kept[total]

    def is_free(self, heap):
        return self.least(heap) in self.free(sum(heap))

    def stays_free(self, heap, many):
        rows = heaps_with_sum(len(heap), many)
        return all(self.is_free(tuple(one - other for one, other in zip(heap, row))) for row in rows)

    def rank(self, heap):
        many = 0
        while self.stays_free(heap, many):
            many += 1
        return many - 1


def pull(web, place, other):
    """Woods that a tie between both would make a tree, for each tree. None if no tree joins them."""
    if place == other:
        return 0, 1
    lots = oracle.Lots(web)
    if not any(place in piece and other in piece for piece in lots.pieces[lots.all]):
        return None
    parting = 0
    for lot in lots.lots:
        herds = [piece for piece in lots.pieces[lot] if place in piece or other in piece]
        parting += lots.is_wood(lot) and len(lot) == lots.full_rank - 1 and len(herds) == 2 and whole_but(lots, lot, herds)
    part = Fraction(parting, len(lots.trees()))
    return part.numerator, part.denominator


def whole_but(lots, lot, herds):
    """Whether the pieces of the lot, both herds taken together, are those of all ties."""
    rest = [piece for piece in lots.pieces[lot] if piece not in herds]
    return sorted(rest + ["".join(sorted("".join(herds)))]) == sorted(lots.pieces[lots.all])


def flows_out(web, heights):
    """For each place what goes out along its ties, each carrying the difference of the heights of its ends."""
    told = dict(zip(web.places, heights))
    return [sum(told[place] - told[other_end(web, index, place)] for index in ties_at(web, place))
            for place in web.places]
