import unittest

import oracle_checker as slow
from cases import Case
from papers import bounds, fractions, heap_with_small_sum, told_lasting, thrown, thrown_leaning
from samples import (
    BIG, BIG_MIXED, CHAIN, FULL, HOUSE, LONE, LONE_LOOPS, NO_TIES, PATH, RING_OF_TWO, THREE, TIES_OF_TWO, TWO_PARTS,
    WHEEL_AND_TWIG, Dice, few_webs, heap_webs, thrown_webs, tiny_heap_webs, tiny_webs, wrong_bounds,
    wrong_heaps, wrong_leanings, wrong_lengths, wrong_numbers, wrong_places, wrong_rooms, wrong_rows, wrong_values,
    wrong_webs,
)
from webreckon.certificates import (
    certify_alike, certify_amount, certify_apart, certify_current, certify_dyed, certify_free, certify_lasting,
    certify_leaning, certify_least_tree, certify_like, certify_parted, certify_pull, certify_rank, certify_row,
    certify_steps, certify_table, certify_trees, certify_turned,
)
from webreckon.checker import accepts
from webreckon.errors import Apart, Looped, Refused, TooMany
from webreckon.heaps import least_heap
from webreckon.lasting import is_lasting, lasting_heaps
from webreckon.leanings import turned
from webreckon.ranks import is_free
from webreckon.webs import Web, renamed

GREAT_WEBS = (BIG, BIG_MIXED, CHAIN, WHEEL_AND_TWIG)
GREAT_HEAP_WEBS = (BIG, CHAIN, WHEEL_AND_TWIG)
MOST = 10 ** 6


def webs_to_certify():
    return [*tiny_webs()[::23], *few_webs(), THREE, FULL, PATH, TIES_OF_TWO, *thrown_webs(137, 10, 6, 6)]


def ends(web):
    return [(one, two) for one in web.places for two in web.places]


class Certificates(Case):
    def check(self, pair, *claims):
        """The pair is one of these claims, which is true, with what shows it."""
        claim = self.check_accepted(pair, *claims)
        self.assertTrue(slow.accepts(*pair), pair)
        self.assertTrue(slow.is_true(claim), pair)
        return claim[0]

    def check_accepted(self, pair, *claims):
        self.assertIs(pair.__class__, tuple)
        claim, certificate = pair
        self.assertIn(claim, claims)
        self.assertIs(accepts(claim, certificate), True, pair)
        return claim


class Webs(Certificates):
    def test_like(self):
        webs = [*tiny_webs()[::61], HOUSE, renamed(HOUSE, "hca"), Web("abc", ("bc", "ab", "ac", "bc")), NO_TIES, LONE]
        words = set()
        for one in webs:
            for two in webs:
                words.add(self.check(certify_like(one, two), *((word, one.text(), two.text()) for word in ("like", "unlike"))))
        self.assertEqual(words, {"like", "unlike"})
        for web in GREAT_WEBS:
            for other in (renamed(web, "bdfhaceg"[:7]), Web(web.places, web.ties[::-1]), BIG, CHAIN):
                self.check_accepted(certify_like(web, other), *((word, web.text(), other.text()) for word in ("like", "unlike")))

    def test_numbers(self):
        for web in webs_to_certify():
            many = len(slow.lots_of(web.text()).trees())
            self.check(certify_trees(web), ("trees", web.text(), many))
            self.check(certify_table(web), ("table", web.text(), slow.table_of(web.text())))
        for web in GREAT_WEBS:
            claim, certificate = certify_trees(web)
            self.check_accepted((claim, certificate), ("trees", web.text(), claim[2]))
            claim, certificate = certify_table(web)
            self.check_accepted((claim, certificate), ("table", web.text(), slow.table_of(web.text())))

    def test_dyed(self):
        words = set()
        for web in webs_to_certify():
            for number in (1, 2, 3, 4):
                claims = [(word, web.text(), number) for word in ("dyed", "not dyed")]
                words.add(self.check(certify_dyed(web, number), *claims))
        self.assertEqual(words, {"dyed", "not dyed"})
        five = Web("abcde", ("ab", "ac", "ad", "ae", "bc", "bd", "be", "cd", "ce", "de"))
        for web in (*GREAT_WEBS, five, Web("abcdefg", ()), Web("abcdefg", ("fg",))):
            for number in range(1, 8):
                claims = [(word, web.text(), number) for word in ("dyed", "not dyed")]
                self.check_accepted(certify_dyed(web, number), *claims)
        self.assertEqual(certify_dyed(five, 4)[0][0], "not dyed")
        self.assertEqual(certify_dyed(five, 5)[0][0], "dyed")

    def test_walks(self):
        for web in [*webs_to_certify(), *GREAT_WEBS]:
            for one, two in ends(web):
                pull, steps = certify_pull(web, one, two), certify_steps(web, one, two)
                if one == two or two not in slow.piece_of(web.text(), one):
                    self.assertIsNone(pull)
                    self.assertIsNone(steps)
                    continue
                told = self.check_accepted(pull, ("pull", web.text(), one, two, pull[0][4]))
                self.assertTrue(slow.is_shown(*pull))
                if web not in GREAT_WEBS:
                    self.assertTrue(slow.is_true(told))
                told = self.check(steps, ("steps", web.text(), one, two, steps[0][4]))


class Ties(Certificates):
    def test_least_trees(self):
        dice = Dice(139)
        for web in [*webs_to_certify(), *GREAT_WEBS]:
            for far in (2, 10 ** 9):
                lengths = thrown(len(web.ties), dice, -far, far)
                pair = certify_least_tree(web, lengths)
                self.check(pair, ("least tree", web.text(), lengths, pair[0][3]))

    def test_leanings(self):
        dice = Dice(149)
        words = set()
        for web in [*webs_to_certify(), *GREAT_WEBS]:
            for leaning in (thrown_leaning(web, dice), thrown_leaning(web, dice), "+" * len(web.ties)):
                claims = [(word, web.text(), leaning) for word in ("ringless", "ring")]
                pair = certify_leaning(web, leaning)
                words.add(self.check(pair, *claims))
        self.assertEqual(words, {"ringless", "ring"})

    def test_turned(self):
        dice = Dice(151)
        found = 0
        for web in [*webs_to_certify(), *GREAT_WEBS]:
            for _ in range(3):
                leaning = thrown_leaning(web, dice)
                rings = slow.leanings_of(web.text()).rings_of_arrows(leaning)
                other = turned(web, leaning, rings[dice.below(len(rings))]) if rings else leaning
                for two in (other, thrown_leaning(web, dice), leaning):
                    pair = certify_turned(web, leaning, two)
                    if pair is None:
                        self.assertFalse(slow.is_true(("turned", web.text(), leaning, two)))
                    else:
                        found += 1
                        self.check(pair, ("turned", web.text(), leaning, two))
        self.assertGreater(found, 50)
        self.assertIsNone(certify_turned(HOUSE, "++++", "+++-"))

    def test_rows(self):
        dice = Dice(157)
        words = set()
        for web in [*webs_to_certify(), *GREAT_WEBS]:
            rows = [thrown(len(web.places), dice, 0, 3), (0,) * len(web.places), (MOST,) * len(web.places)]
            rows += sorted(slow.rows_of(web.text()))[::40]
            rows += [row[::-1] for row in rows]
            for row in rows:
                words.add(self.check(certify_row(web, row), *((word, web.text(), row) for word in ("row", "no row"))))
        self.assertEqual(words, {"row", "no row"})

    def test_currents(self):
        dice = Dice(163)
        words = set()
        for web in [*webs_to_certify(), *GREAT_WEBS]:
            many = len(web.ties)
            for low, high in ((-2, 2), (0, 3), (-1, 1), (1, 2), (-10 ** 12, 10 ** 12)):
                told = bounds(many, dice, low, high)
                words.add(self.check(certify_current(web, told), ("current", web.text(), told), ("barred", web.text(), told)))
        self.assertEqual(words, {"current", "barred"})

    def test_parted(self):
        dice = Dice(167)
        for web in [*webs_to_certify(), *GREAT_WEBS]:
            many = len(web.ties)
            primes = (997, 991, 983, 977, 971, 967, 953, 947, 941, 937, 929)
            worst = tuple((MOST - dice.below(9), prime) for prime in primes[:many])
            worst = tuple(part if slow.is_fraction(part) else (MOST - 1, 1) for part in worst)
            for values in (fractions(many, dice), fractions(many, dice), worst):
                pair = certify_parted(web, values)
                self.check(pair, ("parted", web.text(), values, pair[0][3]))

    def test_amounts(self):
        dice = Dice(173)
        for web in [*webs_to_certify(), *GREAT_WEBS]:
            for one, two in ends(web)[dice.below(3)::3]:
                if one != two:
                    for far in (1, 5, 10 ** 12):
                        rooms = thrown(len(web.ties), dice, 0, far)
                        pair = certify_amount(web, rooms, one, two)
                        self.check(pair, ("amount", web.text(), rooms, one, two, pair[0][5]))
                    pair = certify_apart(web, one, two)
                    self.check(pair, ("apart", web.text(), one, two, pair[0][4]))


class Heaps(Certificates):
    def test_alike(self):
        dice = Dice(179)
        words = set()
        for web in [*tiny_heap_webs()[::9], *heap_webs()]:
            for _ in range(3):
                heap, other = thrown(len(web.places), dice, -3, 3), thrown(len(web.places), dice, -3, 3)
                alike = least_heap(web, heap, web.places[-1])
                for two in (other, (*other[1:], sum(heap) - sum(other[1:])), alike, heap):
                    claims = [(word, web.text(), heap, two) for word in ("alike", "not alike")]
                    words.add(self.check(certify_alike(web, heap, two), *claims))
        self.assertEqual(words, {"alike", "not alike"})
        for web in GREAT_HEAP_WEBS:
            for far in (3, MOST):
                heap = thrown(7, dice, -far, far)
                rest = thrown(6, dice, -9, 9)
                for two in (heap, thrown(7, dice, -far, far), heap[1:] + heap[:1],
                            tuple(one + more for one, more in zip(heap, (*rest, -sum(rest)))) if far == 3 else heap):
                    claims = [(word, web.text(), heap, two) for word in ("alike", "not alike")]
                    self.check_accepted(certify_alike(web, heap, two), *claims)

    def test_free_and_rank(self):
        dice = Dice(181)
        words = set()
        for web in [web for web in [*tiny_heap_webs()[::9], *heap_webs()] if len(web.places) < 5]:
            for _ in range(3):
                heap = heap_with_small_sum(web, dice)
                words.add(self.check(certify_free(web, heap), ("free", web.text(), heap), ("debt", web.text(), heap)))
                pair = certify_rank(web, heap)
                self.check(pair, ("rank", web.text(), heap, pair[0][3]))
        self.assertEqual(words, {"free", "debt"})
        for web in GREAT_HEAP_WEBS:
            for total in range(-8, 9, 2):
                for far in (3, 60000):
                    rest = thrown(6, dice, -far, far)
                    heap = (total - sum(rest), *rest)
                    word = "free" if is_free(web, heap) else "debt"
                    self.check_accepted(certify_free(web, heap), (word, web.text(), heap))
                    pair = certify_rank(web, heap)
                    self.check_accepted(pair, ("rank", web.text(), heap, pair[0][3]))

    def test_lasting(self):
        dice = Dice(191)
        for web in [*tiny_heap_webs()[::5], *heap_webs(), *GREAT_HEAP_WEBS]:
            for bank in web.places:
                at = web.places.index(bank)
                heaps = lasting_heaps(web, bank)
                for heap in (*heaps[::max(1, len(heaps) // 5)], told_lasting(web, bank)):
                    there = heap[:at] + (-MOST,) + heap[at + 1:]
                    claim = ("lasting", web.text(), bank, heap[:at] + (0,) + heap[at + 1:])
                    self.check(certify_lasting(web, there, bank), claim)
                heap = thrown(len(web.places), dice, -1, 2)
                if min(heap[:at] + heap[at + 1:], default=0) < 0 or not is_lasting(web, heap, bank):
                    self.raises(Refused, "value", heap, certify_lasting, web, heap, bank)

    def test_by_hand(self):
        self.assertEqual(certify_free(web=THREE, heap=(-1, 1, 0))[0], ("debt", "abc ab bc ac", (-1, 1, 0)))
        self.assertEqual(certify_free(THREE, (2, -1, 0))[0], ("free", "abc ab bc ac", (2, -1, 0)))
        self.assertEqual(certify_lasting(web=THREE, heap=(7, 0, 1), bank="a"), (("lasting", "abc ab bc ac", "a", (0, 0, 1)), "cb"))
        self.assertEqual(certify_trees(web=LONE), (("trees", "h", 1), ()))
        self.assertEqual(certify_table(web=LONE_LOOPS), (("table", "d dd dd dd", ((0, 0, 0, 1),)), ()))
        self.assertEqual(certify_turned(web=LONE_LOOPS, leaning="+-+", other_leaning="++-"),
                         (("turned", "d dd dd dd", "+-+", "++-"), ((1,), (2,))))
        self.assertEqual(certify_leaning(web=LONE, leaning=""), (("ringless", "h", ""), "h"))
        self.assertEqual(certify_dyed(web=RING_OF_TWO, number=1), (("not dyed", "ce ce ce", 1), ()))
        self.assertEqual(certify_apart(web=NO_TIES, place="g", other_place="b"),
                         (("apart", "bdfg", "g", "b", 0), ((), "g")))
        self.assertEqual(certify_pull(web=THREE, place="a", other_place="b"),
                         (("pull", "abc ab bc ac", "a", "b", (2, 3)), ((2, 3), (0, 1), (1, 3))))
        self.assertEqual(certify_steps(web=Web("abd", ("ab",)), place="a", other_place="b"),
                         (("steps", "abd ab", "a", "b", (1, 1)), ((1, 1), (0, 1), None)))
        self.assertIsNone(certify_pull(TWO_PARTS, "a", "b"))
        self.assertIsNone(certify_steps(TWO_PARTS, "a", "b"))
        self.assertIsNone(certify_pull(HOUSE, "a", "a"))
        self.assertIsNone(certify_steps(HOUSE, "a", "a"))
        self.assertEqual(certify_alike(RING_OF_TWO, (0, 0), (1, 0)), (("not alike", "ce ce ce", (0, 0), (1, 0)), (0, (1, 1))))
        self.assertEqual(certify_rank(web=LONE, heap=(-3,)), (("rank", "h", (-3,), -1), ()))


class Errors(Certificates):
    def test_of_webs(self):
        webs = ("web", HOUSE, wrong_webs())
        self.check_errors(certify_like, [webs, ("other_web", LONE, wrong_webs())])
        self.check_errors(certify_trees, [webs])
        self.check_errors(certify_table, [webs])

    def test_of_ties_and_places(self):
        for web in (HOUSE, LONE, BIG_MIXED):
            webs = ("web", web, wrong_webs())
            many = len(web.ties)
            self.check_errors(certify_least_tree, [webs, ("lengths", (3,) * many, wrong_lengths(web))])
            self.check_errors(certify_leaning, [webs, ("leaning", "-" * many, wrong_leanings(web))])
            self.check_errors(certify_turned, [webs, ("leaning", "-" * many, wrong_leanings(web)),
                                               ("other_leaning", "+" * many, wrong_leanings(web))])
            self.check_errors(certify_row, [webs, ("row", (3,) * len(web.places), wrong_rows(web))])
            self.check_errors(certify_dyed, [webs, ("number", 3, wrong_numbers(8, 1))])
            self.check_errors(certify_current, [webs, ("bounds", ((0, 3),) * many, wrong_bounds(web))])
            self.check_errors(certify_parted, [webs, ("values", ((-3, 5),) * many, wrong_values(web))])

    def test_of_two_places(self):
        for web, one, two in ((HOUSE, "b", "a"), (NO_TIES, "f", "g")):
            webs = ("web", web, wrong_webs())
            wrongs = wrong_places(web)
            same = wrongs + [(one, Refused, "value", one)]
            for call in (certify_pull, certify_steps):
                self.check_errors(call, [webs, ("place", one, wrongs), ("other_place", two, wrongs)])
            self.check_errors(certify_apart, [webs, ("place", one, wrongs), ("other_place", two, same)])
            self.check_errors(certify_amount, [webs, ("rooms", (3,) * len(web.ties), wrong_rooms(web)),
                                               ("place", one, wrongs), ("other_place", two, same)])

    def test_of_heaps(self):
        for web in (HOUSE, LONE):
            self.check_heap_errors(certify_alike, web, lambda web: [
                ("heap", (2,) * len(web.places), wrong_heaps(web)),
                ("other_heap", (MOST,) * len(web.places), wrong_heaps(web)),
            ])
            for call in (certify_free, certify_rank):
                self.check_heap_errors(call, web, lambda web: [
                    ("heap", (2,) + (0,) * (len(web.places) - 1), wrong_heaps(web)),
                ])
            self.check_heap_errors(certify_lasting, web, lambda web: [
                ("heap", told_lasting(web, web.places[0]), wrong_heaps(web)),
                ("bank", web.places[0], wrong_places(web)),
            ])

    def test_at_last(self):
        for call in (certify_free, certify_rank):
            for heap in ((9, 0, 0), (MOST, -MOST, -9)):
                self.raises(TooMany, "limit", 8, call, HOUSE, heap)
            self.raises(Apart, None, None, call, NO_TIES, (9, 0, 0, 0))
            self.raises(Looped, None, None, call, LONE_LOOPS, (9,))
        for heap in ((0, 0, 0), (0, 3, 0), (0, -1, 2), (5, 2, 5)):
            self.raises(Refused, "value", heap, certify_lasting, HOUSE, heap, "a")
        self.raises(Apart, None, None, certify_lasting, NO_TIES, (0, 0, 0, 0), "b")
        self.raises(Looped, None, None, certify_lasting, LONE_LOOPS, (-1,), "d")

    def test_nothing_is_altered(self):
        self.unaltered(certify_like, HOUSE, THREE)
        self.unaltered(certify_least_tree, HOUSE, (1, 2, 3, 4))
        self.unaltered(certify_current, HOUSE, ((0, 1),) * 4)
        self.unaltered(certify_parted, HOUSE, ((1, 2),) * 4)
        self.unaltered(certify_alike, HOUSE, (1, 2, 3), (3, 2, 1))
        self.unaltered(certify_lasting, HOUSE, (5, 2, 1), "a")
        self.unaltered(certify_amount, HOUSE, (1, 2, 3, 4), "a", "b")


if __name__ == "__main__":
    unittest.main()
