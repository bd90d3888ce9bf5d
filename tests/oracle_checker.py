"""Claims and certificates in the document's own words: what is a claim, what is true, and what is shown."""

from fractions import Fraction
from functools import lru_cache
from math import gcd

import oracle
import oracle_heaps
import oracle_rows
import oracle_ways
from samples import Dice

FAR = 10 ** 60


class Plain:
    """Places and ties, as the text tells them."""

    def __init__(self, text):
        self.places, *ties = text.split(" ")
        self.ties = tuple(ties)


def is_text(value):
    if value.__class__ is not str:
        return False
    places, *ties = value.split(" ")
    if not 1 <= len(places) <= 7 or list(places) != sorted(set(places)) or not set(places) <= set("abcdefgh"):
        return False
    return len(ties) <= 11 and all(len(tie) == 2 and set(tie) <= set(places) and tie[0] <= tie[1] for tie in ties)


@lru_cache(maxsize=None)
def lots_of(text):
    return oracle.Lots(Plain(text))


@lru_cache(maxsize=None)
def leanings_of(text):
    return oracle.Leanings(Plain(text))


@lru_cache(maxsize=None)
def frees_of(text):
    return oracle_heaps.Frees(Plain(text))


@lru_cache(maxsize=None)
def rows_of(text):
    web = Plain(text)
    return {oracle_rows.score(web, leaning) for leaning in oracle_rows.leanings(web)}


@lru_cache(maxsize=None)
def table_of(text):
    lots = lots_of(text)
    return oracle.rows_of_powers(oracle.table_by_cutting(list(lots.web.places), lots.web.ties, 0), lots)


def is_integer(value, low=None, high=None):
    if value.__class__ is not int:
        return False
    return (low is None or low <= value) and (high is None or value <= high)


def is_row(value, many, is_right):
    return value.__class__ is tuple and len(value) == many and all(is_right(part) for part in value)


def are_integers(value, many, low=None, high=None):
    return is_row(value, many, lambda part: is_integer(part, low, high))


def is_fraction(value, most_top=FAR, most_bottom=FAR):
    if value.__class__ is not tuple or len(value) != 2:
        return False
    top, bottom = value
    return is_integer(top, -most_top, most_top) and is_integer(bottom, 1, most_bottom) and gcd(top, bottom) == 1


def is_bound(value):
    if not are_integers(value, 2, -10 ** 12, 10 ** 12):
        return False
    return value[0] <= value[1]


def is_string(value, letters, many):
    return value.__class__ is str and len(value) == many and set(value) <= set(letters)


def is_place(web, value):
    return is_string(value, web.places, 1)


def is_herd(web, value):
    return value.__class__ is str and set(value) <= set(web.places) and list(value) == sorted(set(value))


def is_lot(web, value):
    if value.__class__ is not tuple or not all(is_integer(part, 0, len(web.ties) - 1) for part in value):
        return False
    return list(value) == sorted(set(value))


def is_for_heaps(text):
    web = Plain(text)
    lots = lots_of(text)
    return len(lots.pieces[lots.all]) == 1 and all(tie[0] != tie[1] for tie in web.ties)


def is_heap(text, value, most_sum=None):
    if not is_for_heaps(text) or not are_integers(value, len(Plain(text).places), -10 ** 6, 10 ** 6):
        return False
    return most_sum is None or abs(sum(value)) <= most_sum


def is_each_once(places, value):
    return value.__class__ is str and sorted(value) == sorted(places)


def are_ends(web, place, other):
    return is_place(web, place) and is_place(web, other) and place != other


def piece_of(text, place):
    lots = lots_of(text)
    return [piece for piece in lots.pieces[lots.all] if place in piece][0]


def worths(row):
    return [None if part is None else Fraction(*part) for part in row]


def is_pair(value):
    return value.__class__ is tuple and len(value) == 2


class Claims:
    """For each kind of claim whether the parts are such, whether it is true, and whether the certificate shows it.

    What is shown is asked only of claims, and need not tell whether they are true.
    """

    def is_like(self, text, other):
        return is_text(other)

    is_unlike = is_like

    def true_like(self, text, other):
        return len(oracle.renamings(Plain(text), Plain(other))) > 0

    def true_unlike(self, text, other):
        return not self.true_like(text, other)

    def shows_like(self, shown, text, other):
        web, wanted = Plain(text), Plain(other)
        if not is_string(shown, "abcdefgh", len(web.places)) or len(set(shown)) < len(shown):
            return False
        places, ties = oracle.renamed(web.places, web.ties, shown)
        return places == wanted.places and sorted(ties) == sorted(wanted.ties)

    def is_trees(self, text, number):
        return is_integer(number)

    def true_trees(self, text, number):
        return len(lots_of(text).trees()) == number

    def is_table(self, text, rows):
        return rows.__class__ is tuple and all(row.__class__ is tuple and all(map(is_integer, row)) for row in rows)

    def true_table(self, text, rows):
        return rows == table_of(text)

    def is_least_tree(self, text, lengths, number):
        return are_integers(lengths, len(Plain(text).ties), -10 ** 9, 10 ** 9) and is_integer(number)

    def true_least_tree(self, text, lengths, number):
        return oracle.least_trees(lots_of(text).trees(), lengths)[0] == number

    def shows_least_tree(self, shown, text, lengths, number):
        if not is_lot(Plain(text), shown) or shown not in lots_of(text).trees():
            return False
        return sum(lengths[index] for index in shown) == number

    def is_ringless(self, text, leaning):
        return is_string(leaning, "+-", len(Plain(text).ties))

    is_ring = is_ringless

    def true_ringless(self, text, leaning):
        return leanings_of(text).is_ringless(leaning)

    def true_ring(self, text, leaning):
        return not leanings_of(text).is_ringless(leaning)

    def shows_ringless(self, shown, text, leaning):
        if not is_each_once(Plain(text).places, shown):
            return False
        arrows = [leanings_of(text).arrow(leaning, index) for index in range(len(leaning))]
        return all(shown.index(arrow[0]) < shown.index(arrow[1]) for arrow in arrows)

    def shows_ring(self, shown, text, leaning):
        return is_lot(Plain(text), shown) and shown in leanings_of(text).rings_of_arrows(leaning)

    def is_row(self, text, row):
        return are_integers(row, len(Plain(text).places), 0, 10 ** 6)

    is_no_row = is_row

    def true_row(self, text, row):
        return row in rows_of(text)

    def true_no_row(self, text, row):
        return row not in rows_of(text)

    def shows_row(self, shown, text, row):
        web = Plain(text)
        return is_string(shown, "+-", len(web.ties)) and oracle_rows.score(web, shown) == row

    def shows_no_row(self, shown, text, row):
        return is_herd(Plain(text), shown) and oracle_rows.bars_row(Plain(text), row, shown)

    def is_turned(self, text, leaning, other):
        return self.is_ringless(text, leaning) and self.is_ringless(text, other)

    def true_turned(self, text, leaning, other):
        return oracle_rows.score(Plain(text), leaning) == oracle_rows.score(Plain(text), other)

    def shows_turned(self, shown, text, leaning, other):
        if shown.__class__ is not tuple or not all(is_lot(Plain(text), lot) for lot in shown):
            return False
        ties = [index for lot in shown for index in lot]
        if len(ties) != len(set(ties)):
            return False
        told = leanings_of(text)
        return all(lot in told.rings_of_arrows(leaning) for lot in shown) and told.turned(leaning, ties) == other

    def is_dyed(self, text, number):
        return is_integer(number, 1, 7)

    is_not_dyed = is_dyed

    def true_dyed(self, text, number):
        return len(oracle_rows.dyes(Plain(text), number)) > 0

    def true_not_dyed(self, text, number):
        return not self.true_dyed(text, number)

    def shows_dyed(self, shown, text, number):
        return shown.__class__ is str and shown in oracle_rows.dyes(Plain(text), number)

    def is_current(self, text, bounds):
        return is_row(bounds, len(Plain(text).ties), is_bound)

    is_barred = is_current

    def true_current(self, text, bounds):
        herds = oracle.all_herds(Plain(text).places)
        return not any(oracle_rows.bars_bounds(Plain(text), bounds, herd) for herd in herds)

    def true_barred(self, text, bounds):
        return not self.true_current(text, bounds)

    def shows_current(self, shown, text, bounds):
        if not are_integers(shown, len(bounds)):
            return False
        return oracle_rows.is_within(shown, bounds) and oracle_rows.is_current(Plain(text), shown)

    def shows_barred(self, shown, text, bounds):
        return is_herd(Plain(text), shown) and oracle_rows.bars_bounds(Plain(text), bounds, shown)

    def is_parted(self, text, values, current):
        many = len(Plain(text).ties)
        return is_row(values, many, lambda part: is_fraction(part, 10 ** 6, 1000)) and is_row(current, many, is_fraction)

    def true_parted(self, text, values, current):
        rise = [Fraction(*one) - Fraction(*two) for one, two in zip(values, current)]
        return oracle_rows.is_current(Plain(text), worths(current)) and oracle_rows.heights(Plain(text), rise) is not None

    def shows_parted(self, shown, text, values, current):
        web = Plain(text)
        if not is_row(shown, len(web.places), is_fraction) or not oracle_rows.is_current(web, worths(current)):
            return False
        rise = [Fraction(*one) - Fraction(*two) for one, two in zip(values, current)]
        return oracle_rows.is_rise(web, rise, worths(shown))

    def is_alike(self, text, heap, other):
        return is_heap(text, heap) and is_heap(text, other)

    is_not_alike = is_alike

    def true_alike(self, text, heap, other):
        bank = Plain(text).places[0]
        return oracle_heaps.least(Plain(text), heap, bank) == oracle_heaps.least(Plain(text), other, bank)

    def true_not_alike(self, text, heap, other):
        return not self.true_alike(text, heap, other)

    def shows_alike(self, shown, text, heap, other):
        web = Plain(text)
        return are_integers(shown, len(web.places), -FAR, FAR) and oracle_heaps.behind(web, heap, shown) == other

    def shows_not_alike(self, shown, text, heap, other):
        web = Plain(text)
        if not is_pair(shown) or not is_integer(shown[0], 0, FAR) or shown[0] == 1:
            return False
        number, row = shown
        if not are_integers(row, len(web.places), -FAR, FAR):
            return False
        divided = (lambda total: total == 0) if number == 0 else (lambda total: total % number == 0)
        for less in oracle_heaps.flows_out(web, row):
            if not divided(less):
                return False
        return not divided(sum(own * (two - one) for own, one, two in zip(row, heap, other)))

    def is_free(self, text, heap):
        return is_heap(text, heap, 8)

    is_debt = is_free

    def true_free(self, text, heap):
        return frees_of(text).is_free(heap)

    def true_debt(self, text, heap):
        return not frees_of(text).is_free(heap)

    def shows_free(self, shown, text, heap):
        web = Plain(text)
        return are_integers(shown, len(heap), -FAR, FAR) and min(oracle_heaps.behind(web, heap, shown)) >= 0

    def shows_debt(self, shown, text, heap):
        web = Plain(text)
        if not is_pair(shown) or not is_place(web, shown[0]) or not are_integers(shown[1], len(heap), -FAR, FAR):
            return False
        found = oracle_heaps.behind(web, heap, shown[1])
        return oracle_heaps.is_least(web, found, shown[0]) and found[web.places.index(shown[0])] < 0

    def is_rank(self, text, heap, number):
        return is_heap(text, heap, 8) and is_integer(number)

    def true_rank(self, text, heap, number):
        return frees_of(text).rank(heap) == number

    def is_lasting(self, text, bank, heap):
        web = Plain(text)
        return is_place(web, bank) and is_heap(text, heap) and heap[web.places.index(bank)] == 0

    def true_lasting(self, text, bank, heap):
        return min(heap) >= 0 and oracle_heaps.is_lasting(Plain(text), heap, bank, Dice(1))

    def shows_lasting(self, shown, text, bank, heap):
        web = Plain(text)
        if not is_each_once(web.places.replace(bank, ""), shown) or not oracle_heaps.is_settled(web, heap, bank):
            return False
        for at, place in enumerate(shown):
            ends = [oracle_heaps.other_end(web, index, place) for index in oracle_heaps.ties_at(web, place)]
            ahead = [end for end in ends if end in bank + shown[:at]]
            if heap[web.places.index(place)] + len(ahead) < len(oracle_heaps.ties_at(web, place)):
                return False
        return True

    def is_pull(self, text, place, other, part):
        return are_ends(Plain(text), place, other) and is_fraction(part)

    is_steps = is_pull

    def true_pull(self, text, place, other, part):
        return oracle_heaps.pull(Plain(text), place, other) == part

    def shows_pull(self, shown, text, place, other, part):
        web = Plain(text)
        if not is_row(shown, len(web.places), is_fraction):
            return False
        told = dict(zip(web.places, worths(shown)))
        if told[other] != 0 or any(told[at] != 0 for at in web.places if at not in piece_of(text, place)):
            return False
        out = oracle_heaps.flows_out(web, worths(shown))
        return out == [(at == place) - (at == other) for at in web.places] and told[place] == Fraction(*part)

    def true_steps(self, text, place, other, part):
        return any(self.shows_steps(shown, text, place, other, part) for shown in [self.steps_to(text, other)])

    def steps_to(self, text, other):
        """From each place one more than the mean from the ends of its ties: these equations, row after row."""
        web = Plain(text)
        near = [at for at in piece_of(text, other) if at != other]
        rows = []
        for at in near:
            ends = self.ends_from(web, at)
            row = [(at == to) * len(ends) - ends.count(to) for to in near]
            rows.append([Fraction(number) for number in [*row, len(ends)]])
        for k in range(len(rows)):
            swap = [at for at in range(k, len(rows)) if rows[at][k]][0]
            rows[k], rows[swap] = rows[swap], rows[k]
            rows[k] = [number / rows[k][k] for number in rows[k]]
            for at in range(len(rows)):
                if at != k:
                    rows[at] = [one - rows[at][k] * two for one, two in zip(rows[at], rows[k])]
        told = {at: row[-1] for at, row in zip(near, rows)}
        told[other] = Fraction(0)
        return tuple((told[at].numerator, told[at].denominator) if at in told else None for at in web.places)

    def ends_from(self, web, place):
        ends = [oracle_heaps.other_end(web, index, place) for index in oracle_heaps.ties_at(web, place)]
        return [end for end in ends if end != place]

    def shows_steps(self, shown, text, place, other, part):
        web = Plain(text)
        if not is_row(shown, len(web.places), lambda told: told is None or is_fraction(told)):
            return False
        told = dict(zip(web.places, worths(shown)))
        near = piece_of(text, other)
        if told[other] != 0 or any((told[at] is None) == (at in near) for at in web.places):
            return False
        for at in near.replace(other, ""):
            ends = self.ends_from(web, at)
            if told[at] != 1 + sum(told[end] for end in ends) / len(ends):
                return False
        return told[place] == Fraction(*part)

    def is_amount(self, text, rooms, place, other, number):
        web = Plain(text)
        return are_integers(rooms, len(web.ties), 0, 10 ** 12) and are_ends(web, place, other) and is_integer(number)

    def true_amount(self, text, rooms, place, other, number):
        return oracle_ways.least_width(Plain(text), rooms, place, other) == number

    def shows_amount(self, shown, text, rooms, place, other, number):
        web = Plain(text)
        if not is_pair(shown) or not are_integers(shown[0], len(rooms)) or not is_herd(web, shown[1]):
            return False
        if place not in shown[1] or other in shown[1] or oracle_ways.width(web, rooms, shown[1]) != number:
            return False
        return oracle_ways.carries(web, rooms, shown[0], place, other) == number

    def is_apart(self, text, place, other, number):
        return are_ends(Plain(text), place, other) and is_integer(number)

    def true_apart(self, text, place, other, number):
        return self.true_amount(text, (1,) * len(Plain(text).ties), place, other, number)

    def shows_apart(self, shown, text, place, other, number):
        web = Plain(text)
        if not is_pair(shown) or shown[0].__class__ is not tuple or not is_herd(web, shown[1]):
            return False
        lots, herd = shown
        if not all(is_lot(web, lot) and oracle_ways.is_way(web, lot, place, other) for lot in lots):
            return False
        if place not in herd or other in herd or oracle_ways.width(web, (1,) * len(web.ties), herd) != number:
            return False
        return oracle_ways.are_apart(lots) and len(lots) == number


KINDS = {
    "like": 3, "unlike": 3, "trees": 3, "table": 3, "least tree": 4, "ringless": 3, "ring": 3, "row": 3, "no row": 3,
    "turned": 4, "dyed": 3, "not dyed": 3, "current": 3, "barred": 3, "parted": 4, "alike": 4, "not alike": 4,
    "free": 3, "debt": 3, "rank": 4, "lasting": 4, "pull": 5, "steps": 5, "amount": 6, "apart": 5,
}
TRUE_BY_THEMSELVES = ("unlike", "trees", "table", "not dyed", "rank")


def is_claim(claim):
    if claim.__class__ is not tuple or len(claim) < 2 or claim[0].__class__ is not str:
        return False
    if KINDS.get(claim[0]) != len(claim) or not is_text(claim[1]):
        return False
    return getattr(Claims(), "is_" + claim[0].replace(" ", "_"))(*claim[1:])


def is_true(claim):
    return bool(getattr(Claims(), "true_" + claim[0].replace(" ", "_"))(*claim[1:]))


def is_shown(claim, certificate):
    """Of what is a claim. Where the certificate is the empty tuple, this asks whether the claim is true."""
    if claim[0] in TRUE_BY_THEMSELVES:
        return certificate.__class__ is tuple and certificate == () and is_true(claim)
    if claim[0] == "least tree" and not is_true(claim):
        return False
    return bool(getattr(Claims(), "shows_" + claim[0].replace(" ", "_"))(certificate, *claim[1:]))


def accepts(claim, certificate):
    return is_claim(claim) and is_shown(claim, certificate)
