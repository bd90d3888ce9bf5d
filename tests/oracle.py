"""The document's own words, gone through slowly: places and ties come as plain values."""

from fractions import Fraction
from itertools import chain, combinations, permutations, product


def all_lots(web):
    indexes = range(len(web.ties))
    return sorted(chain.from_iterable(combinations(indexes, many) for many in range(len(web.ties) + 1)))


def all_herds(places):
    return ["".join(herd) for many in range(len(places) + 1) for herd in combinations(places, many)]


def lots_within(lot):
    return [some for many in range(len(lot)) for some in combinations(lot, many)]


def pieces(web, lot):
    left = list(web.places)
    herds = []
    while left:
        herd = {left[0]}
        while True:
            grown = set(herd)
            for index in lot:
                if web.ties[index][0] in herd or web.ties[index][1] in herd:
                    grown |= set(web.ties[index])
            if grown == herd:
                break
            herd = grown
        herds.append("".join(sorted(herd)))
        left = [place for place in left if place not in herd]
    return tuple(herds)


class Lots:
    """All lots of a web with their pieces, and what the document tells of them."""

    def __init__(self, web):
        self.web = web
        self.lots = all_lots(web)
        self.pieces = {lot: pieces(web, lot) for lot in self.lots}
        self.all = tuple(range(len(web.ties)))
        self.full_rank = self.rank(self.all)
        self.full_spare = self.spare(self.all)
        self.two_sided = {self.crossing(herd) for herd in all_herds(web.places)}

    def rank(self, lot):
        return len(self.web.places) - len(self.pieces[lot])

    def spare(self, lot):
        return len(lot) - self.rank(lot)

    def is_wood(self, lot):
        return self.spare(lot) == 0

    def is_hold(self, lot):
        return self.pieces[lot] == self.pieces[self.all]

    def is_ring(self, lot):
        return not self.is_wood(lot) and all(self.is_wood(some) for some in lots_within(lot))

    def parts(self, lot):
        rest = tuple(index for index in self.all if index not in lot)
        return len(self.pieces[rest]) > len(self.pieces[self.all])

    def is_bond(self, lot):
        return self.parts(lot) and not any(self.parts(some) for some in lots_within(lot))

    def is_even(self, lot):
        ends = [end for index in lot for end in self.web.ties[index]]
        return all(ends.count(place) % 2 == 0 for place in self.web.places)

    def crossing(self, herd):
        return tuple(i for i, tie in enumerate(self.web.ties) if (tie[0] in herd) + (tie[1] in herd) == 1)

    def is_two_sided(self, lot):
        return lot in self.two_sided

    def rings(self):
        return tuple(lot for lot in self.lots if self.is_ring(lot))

    def bonds(self):
        return tuple(lot for lot in self.lots if self.is_bond(lot))

    def trees(self):
        return tuple(lot for lot in self.lots if self.is_wood(lot) and self.is_hold(lot))

    def blocks(self):
        rings = self.rings()
        found = []
        for index in self.all:
            block = tuple(k for k in self.all if k == index or any(index in ring and k in ring for ring in rings))
            if block not in found:
                found.append(block)
        return tuple(found)


def renamed(places, ties, letters):
    becomes = dict(zip(places, letters))
    return "".join(sorted(letters)), tuple("".join(sorted(becomes[end] for end in tie)) for tie in ties)


def renamings(web, other):
    """All strings of letters, in order, that make the other one of the web but for the order of ties."""
    found = []
    for letters in permutations("abcdefgh", len(web.places)):
        places, ties = renamed(web.places, web.ties, letters)
        if places == other.places and sorted(ties) == sorted(other.ties):
            found.append("".join(letters))
    return found


def plain_text(web):
    texts = []
    for letters in permutations("abcdefgh"[:len(web.places)]):
        places, ties = renamed(web.places, web.ties, letters)
        texts.append(" ".join([places, *sorted(ties)]))
    return min(texts)


def exchanges(trees, tree, index, all_indexes):
    found = []
    for other in all_indexes:
        if (other in tree) == (index in tree):
            continue
        swapped = set(tree) ^ {other, index}
        if tuple(sorted(swapped)) in trees:
            found.append(other)
    return tuple(found)


def least_trees(trees, lengths):
    sums = {tree: sum(lengths[index] for index in tree) for tree in trees}
    least = min(sums.values())
    return least, [tree for tree in trees if sums[tree] == least]


def place_of_bound(trees, lengths, index, length):
    """In how many of the least trees the tie is, if it has this length: "all", "some" or "none"."""
    row = lengths[:index] + (length,) + lengths[index + 1:]
    least = least_trees(trees, row)[1]
    many = sum(1 for tree in least if index in tree)
    return "all" if many == len(least) else "none" if many == 0 else "some"


def lot_counts(lots):
    rows = [[0] * (lots.full_spare + 1) for _ in range(lots.full_rank + 1)]
    for lot in lots.lots:
        rows[lots.full_rank - lots.rank(lot)][lots.spare(lot)] += 1
    return tuple(tuple(row) for row in rows)


def value(lots, x, y):
    x, y = Fraction(*x), Fraction(*y)
    total = sum(
        (x - 1) ** (lots.full_rank - lots.rank(lot)) * (y - 1) ** lots.spare(lot) for lot in lots.lots
    )
    return total.numerator, total.denominator


def table_at(rows, x, y):
    x, y = Fraction(*x), Fraction(*y)
    total = sum(
        (many * x ** i * y ** j for i, row in enumerate(rows) for j, many in enumerate(row)), Fraction(0)
    )
    return total.numerator, total.denominator


def table_by_cutting(places, ties, pick):
    """The table as a dict of powers: ties are cut and shut in the order that pick tells."""
    if not ties:
        return {(0, 0): 1}
    at = pick % len(ties)
    tie, rest = ties[at], ties[:at] + ties[at + 1:]
    if tie[0] == tie[1]:
        return moved(table_by_cutting(places, rest, pick), 0, 1)
    stays, goes = min(tie), max(tie)
    shut_ties = [tuple(sorted(stays if end == goes else end for end in other)) for other in rest]
    shut_table = table_by_cutting([place for place in places if place != goes], shut_ties, pick)
    if not is_joined(rest, stays, goes):
        return moved(shut_table, 1, 0)
    both = table_by_cutting(places, rest, pick)
    for power, many in shut_table.items():
        both[power] = both.get(power, 0) + many
    return both


def moved(powers, more_x, more_y):
    return {(i + more_x, j + more_y): many for (i, j), many in powers.items()}


def is_joined(ties, start, goal):
    seen = {start}
    for _ in ties:
        for tie in ties:
            if seen & set(tie):
                seen |= set(tie)
    return goal in seen


def rows_of_powers(powers, lots):
    return tuple(
        tuple(powers.get((i, j), 0) for j in range(lots.full_spare + 1)) for i in range(lots.full_rank + 1)
    )


def late(lots, tree):
    found = []
    for index in lots.all:
        if index not in tree:
            closed = [ring for ring in lots.rings() if index in ring and set(ring) <= set(tree) | {index}]
            assert len(closed) == 1
            if min(closed[0]) == index:
                found.append(index)
    return tuple(found)


def early(lots, tree):
    trees = lots.trees()
    return tuple(i for i in tree if all(i < k for k in exchanges(trees, tree, i, lots.all)))


class Leanings:
    """All leanings of a web, with their rings and cuts of arrows."""

    def __init__(self, web):
        self.web = web
        self.lots = Lots(web)
        self.rings = self.lots.rings()
        self.all = ["".join(signs) for signs in product("+-", repeat=len(web.ties))]
        self.herds = [(herd, self.lots.crossing(herd)) for herd in all_herds(web.places)]

    def arrow(self, leaning, index):
        tie = self.web.ties[index]
        return tie if leaning[index] == "+" else tie[::-1]

    def is_ring_of_arrows(self, leaning, ring):
        """Each place of a ring has two of its ends; the arrows go round if it is left once and come to once."""
        arrows = [self.arrow(leaning, index) for index in ring]
        tails = sorted(arrow[0] for arrow in arrows)
        heads = sorted(arrow[1] for arrow in arrows)
        return tails == heads and len(set(tails)) == len(tails)

    def rings_of_arrows(self, leaning):
        return [ring for ring in self.rings if self.is_ring_of_arrows(leaning, ring)]

    def cuts_of_arrows(self, leaning):
        return [lot for herd, lot in self.herds
                if lot and all(self.arrow(leaning, index)[0] in herd for index in lot)]

    def turned(self, leaning, lot):
        return "".join("-+"["+-".index(sign)] if at in lot else sign for at, sign in enumerate(leaning))

    def turning(self, leaning, word):
        lots = []
        if word in ("rings", "both"):
            lots += self.rings_of_arrows(leaning)
        if word in ("cuts", "both"):
            lots += self.cuts_of_arrows(leaning)
        return [self.turned(leaning, lot) for lot in lots]

    def sorts(self, word):
        """A dict from each leaning to the list of its sort, in order."""
        reached = {leaning: self.turning(leaning, word) for leaning in self.all}
        sort = {}
        for leaning in self.all:
            if leaning in sort:
                continue
            found, fresh = {leaning}, [leaning]
            while fresh:
                for other in reached[fresh.pop()]:
                    if other not in found:
                        found.add(other)
                        fresh.append(other)
            for member in found:
                sort[member] = tuple(sorted(found))
        return sort

    def is_ringless(self, leaning):
        return not self.rings_of_arrows(leaning)

    def is_ringed(self, leaning):
        inside = {index for ring in self.rings_of_arrows(leaning) for index in ring}
        return inside == set(self.lots.all)

    def fronts(self, leaning):
        heads = {self.arrow(leaning, index)[1] for index in self.lots.all}
        return "".join(place for place in self.web.places if place not in heads)

    def order(self, leaning):
        arrows = [self.arrow(leaning, index) for index in self.lots.all]
        for order in permutations(self.web.places):
            if all(order.index(arrow[0]) < order.index(arrow[1]) for arrow in arrows):
                return "".join(order)
        return None
