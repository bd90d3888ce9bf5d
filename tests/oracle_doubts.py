"""Fillings and offers in the document's own words, gone through slowly."""

from itertools import combinations

import oracle
from webreckon.webs import Web

WORDS = ("trees", "woods", "holds", "ringless", "rows", "pieces", "spare")


def score_rows(leanings):
    web = leanings.web
    rows = set()
    for leaning in leanings.all:
        tails = [leanings.arrow(leaning, index)[0] for index in range(len(web.ties))]
        rows.add(tuple(tails.count(place) for place in web.places))
    return rows


def numbers(web):
    lots = oracle.Lots(web)
    leanings = oracle.Leanings(web)
    return {
        "trees": len(lots.trees()),
        "woods": sum(lots.is_wood(lot) for lot in lots.lots),
        "holds": sum(lots.is_hold(lot) for lot in lots.lots),
        "ringless": sum(leanings.is_ringless(leaning) for leaning in leanings.all),
        "rows": len(score_rows(leanings)),
        "pieces": len(lots.pieces[lots.all]),
        "spare": lots.full_spare,
    }


def some_within(indexes):
    return [some for many in range(len(indexes) + 1) for some in combinations(indexes, many)]


class Fillings:
    """For each lot of doubtful ties that are there the numbers of the web with these."""

    def __init__(self, web, doubts, numbers_of=numbers):
        self.doubts = doubts
        self.numbers = {}
        for lot in some_within(doubts):
            gone = [index for index in doubts if index not in lot]
            ties = tuple(tie for index, tie in enumerate(web.ties) if index not in gone)
            self.numbers[lot] = numbers_of(Web(web.places, ties))

    def range_of(self, word):
        told = sorted(numbers[word] for numbers in self.numbers.values())
        return told[0], told[-1]

    def fitting(self, looks):
        return [lot for lot, numbers in self.numbers.items() if all(numbers[word] == n for word, n in looks)]

    def surely(self, looks):
        lots = self.fitting(looks)
        always = tuple(index for index in self.doubts if all(index in lot for lot in lots))
        return always, tuple(index for index in self.doubts if all(index not in lot for lot in lots))

    def best_tie(self, looks):
        lots = self.fitting(looks)
        if len(lots) == 1:
            return None
        worst = {}
        for index in self.doubts:
            many = sum(index in lot for lot in lots)
            worst[index] = max(many, len(lots) - many)
        return [index for index in self.doubts if worst[index] == min(worst.values())][0]


class Offers:
    """For each set of offers, told by their indexes, the numbers of the web behind them."""

    def __init__(self, web, offers, numbers_of=numbers):
        self.numbers = {}
        for row in some_within(range(len(offers))):
            ties = list(enumerate(web.ties))
            for at in row:
                if offers[at][0] == "take":
                    ties = [(index, tie) for index, tie in ties if index != offers[at][1]]
            behind = [tie for _, tie in ties]
            for at in row:
                if offers[at][0] == "put":
                    behind.append(offers[at][1] + offers[at][2])
            self.numbers[row] = numbers_of(Web(web.places, tuple(behind)))

    def reaching(self, word, number):
        rows = [row for row, numbers in self.numbers.items() if numbers[word] >= number]
        least = [row for row in rows if not any(set(other) < set(row) for other in rows)]
        return tuple(sorted(least, key=lambda row: (len(row), row)))
