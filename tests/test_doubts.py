import unittest

import oracle_doubts as told
from cases import Case
from samples import (
    BIG, BIG_MIXED, CHAIN, FULL, HOUSE, LONE, LONE_LOOPS, NO_TIES, PATH, RING_OF_TWO, STRANGE, THREE, TWO_PARTS,
    WHEEL_AND_TWIG, Dice, Same, few_webs, thrown_webs, tiny_webs, wrong_lots, wrong_numbers, wrong_webs,
    wrong_words_of_numbers,
)
from webreckon.doubts import best_tie, count_fits, range_of, reaching, surely
from webreckon.errors import InvalidLooks, InvalidLot, InvalidNumber, InvalidOffers, InvalidWord, NoFit, TooMany
from webreckon.leanings import ringless
from webreckon.lots import pieces, spare
from webreckon.scores import count_rows
from webreckon.table import value
from webreckon.trees import count_trees
from webreckon.webs import Web

WITH_LOOKS = (count_fits, surely, best_tie)
GREAT_WEBS = (BIG, BIG_MIXED, CHAIN, WHEEL_AND_TWIG)


def numbers_of_parts(web):
    """What other parts of the program tell, which are held against the document by their own tests."""
    lot = tuple(range(len(web.ties)))
    at = {(x, y): value(web, (x, 1), (y, 1))[0] for x, y in ((2, 1), (1, 2), (2, 0))}
    return {"trees": count_trees(web), "woods": at[2, 1], "holds": at[1, 2], "ringless": at[2, 0], "rows": at[2, 1],
            "pieces": len(pieces(web, lot)), "spare": spare(web, lot)}


def thrown_lot(web, dice, most):
    lot = [index for index in range(len(web.ties)) if dice.below(2)]
    while len(lot) > most:
        lot.pop(dice.below(len(lot)))
    return tuple(lot)


def thrown_offers(web, dice, many, most_put):
    offers = []
    while len(offers) < many:
        if dice.below(2) and web.ties:
            offer = ("take", dice.below(len(web.ties)))
        else:
            ends = sorted(web.places[dice.below(len(web.places))] for _ in range(2))
            offer = ("put", *ends)
        is_put = offer[0] == "put"
        if offer in offers or is_put and sum(other[0] == "put" for other in offers) >= most_put:
            many -= 1
        else:
            offers.append(offer)
    return tuple(offers)


class Fillings(Case):
    def check_doubts(self, web, fillings, dice):
        for word in told.WORDS:
            self.assertEqual(range_of(web, fillings.doubts, word), fillings.range_of(word))
        lots = list(fillings.numbers)
        self.check_looks(web, fillings, ())
        for _ in range(3):
            numbers = fillings.numbers[lots[dice.below(len(lots))]]
            words = [word for word in told.WORDS if dice.below(3) == 0]
            self.check_looks(web, fillings, tuple((word, numbers[word]) for word in words)[:6])
        self.check_looks(web, fillings, (("trees", numbers["trees"]), ("woods", numbers["woods"] + 1)))
        self.check_looks(web, fillings, (("pieces", numbers["pieces"]), ("pieces", numbers["pieces"])))

    def check_looks(self, web, fillings, looks):
        doubts = fillings.doubts
        many = len(fillings.fitting(looks))
        self.assertEqual(count_fits(web, doubts, looks), many)
        if many == 0:
            self.raises(NoFit, None, None, surely, web, doubts, looks)
            self.raises(NoFit, None, None, best_tie, web, doubts, looks)
            return
        self.assertEqual(surely(web, doubts, looks), fillings.surely(looks))
        self.assertEqual(best_tie(web, doubts, looks), fillings.best_tie(looks))

    def test_small_webs(self):
        dice = Dice(41)
        webs = [web for web in few_webs() if len(web.ties) < 6]
        for web in [*webs, HOUSE, THREE, PATH, RING_OF_TWO, *tiny_webs()[::40]]:
            for most in (0, 2, 4):
                self.check_doubts(web, told.Fillings(web, thrown_lot(web, dice, most)), dice)

    def test_all_doubts_of_the_house(self):
        dice = Dice(43)
        for doubts in told.some_within(range(4)):
            self.check_doubts(HOUSE, told.Fillings(HOUSE, doubts), dice)

    def test_the_parts_tell_the_same_numbers(self):
        for web in [*few_webs()[:8], FULL]:
            parts = numbers_of_parts(web)
            self.assertEqual(parts["ringless"], len(ringless(web)))
            self.assertEqual(parts["rows"], count_rows(web))
            for word in told.WORDS:
                self.assertEqual(range_of(web, (), word), (parts[word], parts[word]))

    def test_great_webs(self):
        dice = Dice(47)
        for web in GREAT_WEBS:
            for most in (3, 6):
                doubts = thrown_lot(web, dice, most)
                self.check_doubts(web, told.Fillings(web, doubts, numbers_of_parts), dice)
        for word in told.WORDS:
            parts = told.numbers(Web(BIG.places, BIG.ties[:8]))
            self.assertEqual(range_of(Web(BIG.places, BIG.ties[:8]), (), word), (parts[word], parts[word]))

    def test_more_webs(self):
        dice = Dice(53)
        for web in thrown_webs(59, 12, 6, 8):
            self.check_doubts(web, told.Fillings(web, thrown_lot(web, dice, 6), numbers_of_parts), dice)

    def test_by_hand(self):
        self.assertEqual(range_of(web=HOUSE, doubts=(0, 1, 3), word="trees"), (1, 5))
        self.assertEqual(range_of(HOUSE, (), "trees"), (5, 5))
        self.assertEqual(range_of(LONE, (), "holds"), (1, 1))
        self.assertEqual(range_of(LONE_LOOPS, (0, 1, 2), "holds"), (1, 8))
        self.assertEqual(range_of(LONE_LOOPS, (0, 1, 2), "ringless"), (0, 1))
        self.assertEqual(range_of(NO_TIES, (), "pieces"), (4, 4))
        self.assertEqual(count_fits(web=HOUSE, doubts=(0, 1, 3), looks=(("pieces", 1),)), 7)
        self.assertEqual(count_fits(HOUSE, (0, 1, 3), ()), 8)
        self.assertEqual(count_fits(HOUSE, (), ()), 1)
        self.assertEqual(count_fits(HOUSE, (), (("trees", 5),)), 1)
        self.assertEqual(count_fits(HOUSE, (), (("trees", 4),)), 0)
        self.assertEqual(surely(web=HOUSE, doubts=(0, 1, 3), looks=(("trees", 5),)), ((0, 1, 3), ()))
        self.assertEqual(surely(HOUSE, (0, 1), (("pieces", 1), ("spare", 0))), ((), (0, 1)))
        self.assertEqual(surely(HOUSE, (), ()), ((), ()))
        self.assertIsNone(best_tie(web=HOUSE, doubts=(0, 1, 3), looks=(("trees", 5),)))
        self.assertIsNone(best_tie(HOUSE, (), ()))
        self.assertEqual(best_tie(HOUSE, (1, 2), ()), 1)
        self.assertEqual(best_tie(HOUSE, (0, 1, 3), (("spare", 1),)), 0)
        self.raises(NoFit, None, None, surely, HOUSE, (), (("trees", 4),))
        self.raises(NoFit, None, None, best_tie, HOUSE, (), (("trees", 4),))

    def test_great_numbers_in_looks(self):
        self.assertEqual(count_fits(HOUSE, (0,), (("trees", 10 ** 59),)), 0)
        self.assertEqual(count_fits(HOUSE, (0, 1, 2, 3), (("spare", 0), ("spare", 0), ("spare", 0))), 10)


class Offers(Case):
    def check_offers(self, web, offers, numbers_of):
        right = told.Offers(web, offers, numbers_of)
        for word in told.WORDS:
            seen = sorted({numbers[word] for numbers in right.numbers.values()})
            for number in {0, *seen[::2], seen[-1], seen[-1] + 1}:
                self.assertEqual(reaching(web, offers, word, number), right.reaching(word, number))

    def test_small_webs(self):
        dice = Dice(67)
        for web in [HOUSE, THREE, LONE, NO_TIES, RING_OF_TWO, *[web for web in few_webs() if len(web.ties) < 5]]:
            for many in (0, 2, 3):
                self.check_offers(web, thrown_offers(web, dice, many, 2), told.numbers)

    def test_great_webs(self):
        dice = Dice(71)
        for web in (*GREAT_WEBS, TWO_PARTS, FULL, Web("abcdefg", ("ab", "bc", "cd", "de", "ef"))):
            offers = thrown_offers(web, dice, 6, 11 - len(web.ties))
            self.check_offers(web, offers, numbers_of_parts)

    def test_by_hand(self):
        path = Web("abc", ("ab", "bc"))
        offers = (("put", "a", "b"), ("put", "b", "c"), ("put", "a", "c"), ("take", 0))
        self.assertEqual(reaching(web=path, offers=offers, word="trees", number=3), ((2,), (0, 1)))
        self.assertEqual(reaching(path, offers, "trees", 1), ((),))
        self.assertEqual(reaching(path, offers, "trees", 0), ((),))
        self.assertEqual(reaching(path, offers, "pieces", 2), ((3,),))
        self.assertEqual(reaching(path, offers, "trees", 10 ** 6), ())
        self.assertEqual(reaching(path, (), "trees", 1), ((),))
        self.assertEqual(reaching(path, (), "trees", 2), ())
        self.assertEqual(reaching(LONE, (("put", "h", "h"),), "holds", 2), ((0,),))
        self.assertEqual(reaching(LONE_LOOPS, (("take", 2), ("take", 0), ("take", 1)), "ringless", 1), ((0, 1, 2),))

    def test_too_many_ties(self):
        ten = Web(BIG.places, BIG.ties[:10])
        for call in (reaching,):
            self.assertEqual(call(ten, (("put", "a", "a"),), "holds", 0), ((),))
            self.raises(TooMany, "limit", 11, call, ten, (("put", "a", "a"), ("put", "a", "b")), "holds", 0)
            self.raises(TooMany, "limit", 11, call, BIG, (("put", "a", "a"),), "holds", 0)
            taken = (("take", 0), ("take", 1), ("put", "a", "a"))
            self.raises(TooMany, "limit", 11, call, BIG, taken, "holds", 0)
            self.assertEqual(call(BIG, taken[:2], "holds", 0), ((),))
            five = Web("ab", ("ab",) * 8 + ("aa",))
            self.assertEqual(call(five, (("put", "a", "a"), ("put", "b", "b")), "spare", 9), ((0,), (1,)))
            self.raises(TooMany, "limit", 11, call, five,
                        (("put", "a", "a"), ("put", "b", "b"), ("put", "a", "b")), "spare", 9)
            # It is looked for when all else is right.
            self.raises(InvalidNumber, "value", -1, call, BIG, (("put", "a", "a"),), "holds", -1)
            self.raises(InvalidWord, "value", "hold", call, BIG, (("put", "a", "a"),), "hold", 0)


def wrong_looks():
    rows = [(bad, InvalidLooks, "index", None) for bad in STRANGE if not isinstance(bad, tuple)]
    rows += [(bad, InvalidLooks, "index", None) for bad in ("trees", 0, ["trees", 1], [("trees", 1)])]
    good = ("trees", 1)
    bads = [bad for bad in STRANGE if bad != ()] + [
        (), "trees", ("trees",), ("trees", 1, 1), ["trees", 1], ("tree", 1), ("trees", -1), ("trees", True),
        ("trees", None), ("trees", "1"), (1, "trees"), (b"trees", 1), (("trees",), 1), ("trees", (1,)), ("Trees", 1),
        ("trees", -10 ** 59), (None, 1), ("trees ", 1), ("both", 1), (["trees"], 1), ({}, 1),
    ]
    for bad in bads:
        rows.append(((bad,), InvalidLooks, "index", 0))
        rows.append(((good, good, bad, None), InvalidLooks, "index", 2))
    rows.append(((good,) * 7, InvalidLooks, "index", 6))
    rows.append(((good,) * 6 + (None,), InvalidLooks, "index", 6))
    rows.append(((good,) * 5 + (None, None), InvalidLooks, "index", 5))
    rows.append(((good,) * 20, InvalidLooks, "index", 6))
    return rows


def wrong_offers(web):
    rows = [(bad, InvalidOffers, "index", None) for bad in STRANGE if not isinstance(bad, tuple)]
    rows += [(bad, InvalidOffers, "index", None) for bad in ("put", 0, ["take", 0], [("take", 0)])]
    many = len(web.ties)
    bads = [bad for bad in STRANGE if bad != ()] + [
        (), "put", ("put",), ("put", "a"), ("put", "a", "b", "c"), ("put", "b", "a"), ("put", "ab"), ("put", "a", "h"),
        ("put", "a", ""), ("put", "", "a"), ("put", "ab", "c"), ("put", "a", "bc"), ("put", 0, 1), ("put", None, "a"),
        ("put", "a", None), ["put", "a", "b"], ("put", "A", "b"), ("take",), ("take", many), ("take", -1),
        ("take", True), ("take", False), ("take", "0"), ("take", 0, 0), ("take", None), ("take", (0,)), ("Take", 0),
        ("take", 10 ** 59), (0, "take"), ("take", "a", "b"), ("put", 0), (b"take", 0), ("put", ["a"], "b"),
        (["put"], "a", "b"), ({}, 0), ("put", ("a",), "b"), ("cut", 0),
    ]
    good = ("put", "a", "b")
    for bad in bads:
        rows.append(((bad,), InvalidOffers, "index", 0))
        rows.append(((good, ("take", 1), bad, None), InvalidOffers, "index", 2))
    rows.append(((good, good), InvalidOffers, "index", 1))
    rows.append(((("take", 0), good, ("take", 0)), InvalidOffers, "index", 2))
    six = (good, ("take", 0), ("take", 1), ("take", 2), ("put", "a", "a"), ("put", "a", "c"))
    rows.append((six + (("take", 3),), InvalidOffers, "index", 6))
    rows.append((six + (None,), InvalidOffers, "index", 6))
    rows.append((six[:5] + (good, ("take", 3)), InvalidOffers, "index", 5))
    return rows


class Errors(Case):
    def test_range_of(self):
        self.check_errors(range_of, [
            ("web", HOUSE, wrong_webs()), ("doubts", (0, 2), wrong_lots(HOUSE)),
            ("word", "woods", wrong_words_of_numbers()),
        ])

    def test_with_looks(self):
        for call in WITH_LOOKS:
            self.check_errors(call, [
                ("web", HOUSE, wrong_webs()), ("doubts", (0, 2), wrong_lots(HOUSE)), ("looks", (), wrong_looks()),
            ])

    def test_reaching(self):
        self.check_errors(reaching, [
            ("web", HOUSE, wrong_webs()), ("offers", (("take", 3), ("put", "b", "b")), wrong_offers(HOUSE)),
            ("word", "rows", wrong_words_of_numbers()), ("number", 3, wrong_numbers(10 ** 6 + 1)),
        ])

    def test_the_seventh_tie(self):
        rows = [((1, 2, 3, 5, 6, 8, 9), 6), ((1, 2, 3, 5, 6, 8, 9, 10), 6), ((1, 2, 3, 5, 6, 8, 8), 6),
                ((1, 2, 3, 5, 6, 8, None), 6), ((1, 2, 3, 5, 6, 11, 9), 5), ((0, 2, 1, 5, 6, 8, 9), 2)]
        for doubts, index in rows:
            self.raises(InvalidLot, "index", index, range_of, BIG, doubts, "trees")
            for call in WITH_LOOKS:
                self.raises(InvalidLot, "index", index, call, BIG, doubts, ())
        self.assertEqual(count_fits(BIG, (1, 2, 3, 5, 6, 8), ()), 64)

    def test_no_fit_comes_last(self):
        for call in (surely, best_tie):
            self.raises(InvalidLooks, "index", 1, call, HOUSE, (0,), (("trees", 100), ("tree", 1)))
            self.raises(InvalidLot, "index", 0, call, HOUSE, (9,), (("trees", 100),))

    def test_numbers_at_the_bounds(self):
        self.assertEqual(reaching(HOUSE, (), "trees", 0), ((),))
        self.assertEqual(reaching(HOUSE, (), "trees", 10 ** 6), ())
        self.raises(InvalidNumber, "value", 10 ** 6 + 1, reaching, HOUSE, (), "trees", 10 ** 6 + 1)
        self.raises(InvalidNumber, "value", -1, reaching, HOUSE, (), "trees", -1)

    def test_what_is_told_to_be_equal(self):
        same = Same()
        self.raises(InvalidWord, "value", same, range_of, HOUSE, (), same)
        self.raises(InvalidWord, "value", same, reaching, HOUSE, (), same, 0)
        for call in WITH_LOOKS:
            self.raises(InvalidLooks, "index", 0, call, HOUSE, (), ((same, 5),))
            self.raises(InvalidLooks, "index", 0, call, HOUSE, (), (("trees", same),))
        for offer in ((same, 0), (same, "a", "b"), ("take", same), ("put", same, "b"), ("put", "a", same), same):
            self.raises(InvalidOffers, "index", 1, reaching, HOUSE, (("take", 0), offer), "trees", 0)

    def test_nothing_is_altered(self):
        self.unaltered(range_of, HOUSE, (0, 2), "rows")
        for call in WITH_LOOKS:
            self.unaltered(call, HOUSE, (0, 2), (("pieces", 1),))
        self.unaltered(reaching, HOUSE, (("take", 1), ("put", "a", "a")), "holds", 4)


if __name__ == "__main__":
    unittest.main()
