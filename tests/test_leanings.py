import unittest

import oracle
from cases import Case
from samples import (
    BIG, BIG_MIXED, HOUSE, LONE, LONE_LOOPS, NO_TIES, RING_OF_TWO, few_webs, thrown_webs, tiny_webs, wrong_indexes,
    wrong_leanings, wrong_lots, wrong_places, wrong_webs, wrong_words,
)
from webreckon.leanings import (
    are_of_sort, arrows, count_sorts, fronts, is_ringed, is_ringless, order_of, ring_or_cut, ringed, ringless, sort_of,
    turned, with_front,
)
from webreckon.table import value
from webreckon.webs import Web, is_whole

WORDS = ("rings", "cuts", "both")


def webs_to_lean():
    return [*tiny_webs()[::2], *few_webs(), *thrown_webs(41, 12, 6, 6)]


class OneLeaning(Case):
    def check_leaning(self, told, leaning):
        web = told.web
        self.assertEqual(arrows(web, leaning), tuple(told.arrow(leaning, at) for at in told.lots.all))
        self.assertIs(is_ringless(web, leaning), told.is_ringless(leaning))
        self.assertIs(is_ringed(web, leaning), told.is_ringed(leaning))
        self.assertEqual(fronts(web, leaning), told.fronts(leaning))
        rings, cuts = told.rings_of_arrows(leaning), told.cuts_of_arrows(leaning)
        for index in told.lots.all:
            found = ring_or_cut(web, leaning, index)
            self.assertIs(found.__class__, tuple)
            word, lot = found
            self.assertIn(index, lot)
            self.assertIn(lot, {"ring": rings, "cut": cuts}[word])

    def test_small_webs(self):
        for web in webs_to_lean():
            told = oracle.Leanings(web)
            for leaning in told.all:
                self.check_leaning(told, leaning)
                if len(web.places) < 6:
                    self.assertEqual(order_of(web, leaning), told.order(leaning))

    def test_big_webs(self):
        for web in (BIG, BIG_MIXED):
            told = oracle.Leanings(web)
            for leaning in told.all[::97]:
                self.check_leaning(told, leaning)
                self.assertEqual(order_of(web, leaning), told.order(leaning))
        self.assertEqual(order_of(BIG, "+" * 11), "abcdefg")
        self.assertEqual(order_of(BIG, "-" * 11), "gfedcba")
        self.assertEqual(order_of(BIG, "+++++++-+++"), "abcdegf")
        self.assertIsNone(order_of(BIG, "++++++++-++"))

    def test_turned(self):
        for web in few_webs():
            told = oracle.Leanings(web)
            for leaning in told.all[::5]:
                for lot in told.lots.lots[::3]:
                    self.assertEqual(turned(web, leaning, lot), told.turned(leaning, lot))
        self.assertEqual(turned(BIG, "+-+-+-+-+-+", (0, 1, 10)), "-++-+-+-+--")
        self.assertEqual(turned(lot=(), web=LONE, leaning=""), "")

    def test_by_hand(self):
        self.assertEqual(arrows(HOUSE, "+-+-"), ("ab", "ba", "bc", "ca"))
        self.assertEqual(arrows(web=LONE_LOOPS, leaning="+-+"), ("dd", "dd", "dd"))
        self.assertEqual(arrows(LONE, ""), ())
        self.assertIs(is_ringless(HOUSE, "++++"), True)
        self.assertIs(is_ringless(web=HOUSE, leaning="+-++"), False)
        self.assertIs(is_ringed(leaning="+-++", web=HOUSE), False)
        self.assertIs(is_ringed(HOUSE, "+++-"), True)
        self.assertEqual(fronts(HOUSE, "++++"), "a")
        self.assertEqual(fronts(web=HOUSE, leaning="++-+"), "a")
        self.assertEqual(fronts(HOUSE, "----"), "c")
        self.assertEqual(fronts(HOUSE, "+-++"), "")
        self.assertEqual(fronts(NO_TIES, ""), "bdfg")
        self.assertEqual(fronts(LONE_LOOPS, "+++"), "")
        self.assertEqual(order_of(HOUSE, "++++"), "abc")
        self.assertEqual(order_of(web=HOUSE, leaning="-----"[:4]), "cba")
        self.assertIsNone(order_of(HOUSE, "+-++"))
        self.assertEqual(order_of(NO_TIES, ""), "bdfg")
        self.assertEqual(order_of(Web("abcd", ("bd",)), "-"), "acdb")
        self.assertIsNone(order_of(LONE_LOOPS, "---"))
        for web in (LONE, NO_TIES):
            self.assertIs(is_ringless(web, ""), True)
            self.assertIs(is_ringed(web, ""), True)
        self.assertEqual(ring_or_cut(web=HOUSE, leaning="+-++", index=1), ("ring", (0, 1)))
        self.assertEqual(ring_or_cut(HOUSE, "+-++", 3), ("cut", (2, 3)))
        self.assertEqual(ring_or_cut(LONE_LOOPS, "+-+", 1), ("ring", (1,)))


class ListsOfLeanings(Case):
    def check_lists(self, told):
        web = told.web
        ringless_ones = tuple(leaning for leaning in told.all if told.is_ringless(leaning))
        self.assertEqual(ringless(web), ringless_ones)
        self.assertEqual(ringed(web), tuple(leaning for leaning in told.all if told.is_ringed(leaning)))
        self.assertEqual((len(ringless(web)), 1), value(web, (2, 1), (0, 1)))
        self.assertEqual((len(ringed(web)), 1), value(web, (0, 1), (2, 1)))
        for place in web.places:
            own = tuple(leaning for leaning in ringless_ones if told.fronts(leaning) == place)
            self.assertEqual(with_front(web, place), own)
            if is_whole(web):
                self.assertEqual((len(own), 1), value(web, (1, 1), (0, 1)))

    def test_small_webs(self):
        for web in webs_to_lean():
            self.check_lists(oracle.Leanings(web))

    def test_big_webs(self):
        for web in (BIG, BIG_MIXED, Web("abcdefg", BIG.ties[:9] + ("ab", "fg"))):
            self.check_lists(oracle.Leanings(web))

    def test_by_hand(self):
        self.assertEqual(ringless(RING_OF_TWO), ("++", "--"))
        self.assertEqual(ringed(RING_OF_TWO), ("+-", "-+"))
        self.assertEqual(with_front(RING_OF_TWO, "e"), ("--",))
        self.assertEqual(with_front(place="c", web=RING_OF_TWO), ("++",))
        for web in (LONE, NO_TIES):
            self.assertEqual((ringless(web=web), ringed(web=web)), (("",), ("",)))
        self.assertEqual(with_front(LONE, "h"), ("",))
        self.assertEqual(with_front(NO_TIES, "d"), ())
        self.assertEqual(ringless(LONE_LOOPS), ())
        self.assertEqual(ringed(Web("a", ("aa",))), ("+", "-"))
        self.assertEqual(len(ringed(LONE_LOOPS)), 8)
        self.assertEqual(with_front(LONE_LOOPS, "d"), ())


class Sorts(Case):
    def check_sorts(self, told, step):
        web = told.web
        for word in WORDS:
            sort = told.sorts(word)
            self.assertEqual(count_sorts(web, word), len(set(sort.values())))
            for leaning in told.all[::step]:
                self.assertEqual(sort_of(web, leaning, word), sort[leaning])
                for other in told.all[::step]:
                    self.assertIs(are_of_sort(web, leaning, other, word), sort[leaning] == sort[other])

    def check_counts(self, web):
        for word, x, y in (("rings", 2, 1), ("cuts", 1, 2), ("both", 1, 1)):
            self.assertEqual((count_sorts(web, word), 1), value(web, (x, 1), (y, 1)))

    def test_small_webs(self):
        for web in [*tiny_webs()[::5], *few_webs()]:
            told = oracle.Leanings(web)
            self.check_sorts(told, 1 if len(web) < 4 else 7)
            self.check_counts(web)

    def test_big_webs(self):
        for web in (BIG, BIG_MIXED):
            self.check_sorts(oracle.Leanings(web), 811)
            self.check_counts(web)

    def test_by_hand(self):
        self.assertEqual(sort_of(RING_OF_TWO, "+-", "rings"), ("+-", "-+"))
        self.assertEqual(sort_of(RING_OF_TWO, "++", "rings"), ("++",))
        self.assertEqual(sort_of(RING_OF_TWO, "++", "cuts"), ("++", "--"))
        self.assertEqual(sort_of(web=RING_OF_TWO, leaning="-+", word="cuts"), ("-+",))
        self.assertEqual(sort_of(LONE_LOOPS, "+++", "cuts"), ("+++",))
        self.assertEqual(len(sort_of(LONE_LOOPS, "+++", "rings")), 8)
        self.assertIs(are_of_sort(web=RING_OF_TWO, leaning="+-", other_leaning="-+", word="rings"), True)
        self.assertIs(are_of_sort(RING_OF_TWO, "+-", "++", "both"), False)
        self.assertEqual([count_sorts(HOUSE, word) for word in WORDS], [10, 10, 5])
        self.assertEqual([count_sorts(web=LONE, word=word) for word in WORDS], [1, 1, 1])
        self.assertEqual([count_sorts(LONE_LOOPS, word) for word in WORDS], [1, 8, 1])
        for word in WORDS:
            self.assertEqual(sort_of(LONE, "", word), ("",))
            self.assertIs(are_of_sort(NO_TIES, "", "", word), True)


class Errors(Case):
    def test_of_a_web(self):
        for call in (ringless, ringed):
            self.check_errors(call, [("web", HOUSE, wrong_webs())])

    def test_of_a_leaning(self):
        for web, right in ((HOUSE, "+--+"), (LONE, ""), (LONE_LOOPS, "---")):
            for call in (arrows, is_ringless, is_ringed, fronts, order_of):
                self.check_errors(call, [("web", web, wrong_webs()), ("leaning", right, wrong_leanings(web))])

    def test_of_more(self):
        start = [("web", HOUSE, wrong_webs()), ("leaning", "+--+", wrong_leanings(HOUSE))]
        self.check_errors(turned, [*start, ("lot", (1, 3), wrong_lots(HOUSE))])
        self.check_errors(ring_or_cut, [*start, ("index", 2, wrong_indexes(HOUSE))])
        self.check_errors(with_front, [("web", HOUSE, wrong_webs()), ("place", "b", wrong_places(HOUSE))])

    def test_of_sorts(self):
        start = [("web", HOUSE, wrong_webs()), ("leaning", "+--+", wrong_leanings(HOUSE))]
        for word in WORDS:
            last = ("word", word, wrong_words())
            self.check_errors(sort_of, [*start, last])
            self.check_errors(are_of_sort, [*start, ("other_leaning", "----", wrong_leanings(HOUSE)), last])
            self.check_errors(count_sorts, [("web", HOUSE, wrong_webs()), last])

    def test_nothing_is_altered(self):
        for call in (arrows, fronts, order_of, is_ringless, is_ringed):
            self.unaltered(call, HOUSE, "+-++")
        self.unaltered(turned, HOUSE, "+-++", (0, 2))
        self.unaltered(sort_of, HOUSE, "+-++", "both")


if __name__ == "__main__":
    unittest.main()
