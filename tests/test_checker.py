import unittest
from itertools import combinations, permutations, product

import oracle
import oracle_checker as slow
from cases import Case
from papers import altered, papers
from samples import (
    APART, BIG, BIG_MIXED, CHAIN, DEEP, FULL, HOUSE, LONE, LONE_LOOPS, NO_TIES, PATH, RING_OF_TWO, STRANGE, THREE,
    TIES_OF_TWO, TWO_PARTS, WHEEL_AND_TWIG, Dice, Same, thrown_webs,
)
from webreckon.checker import accepts
from webreckon.webs import Web, renamed

FAR = 10 ** 60
SMALL = (
    HOUSE, THREE, RING_OF_TWO, LONE, LONE_LOOPS, PATH, APART, Web("bd", ("bb", "bd", "bd")), Web("afg", ("fg",)),
    Web("ab", ("ab",)), Web("cde", ("cd", "cd", "de", "de")), Web("bc", ()), TIES_OF_TWO,
)


def others_of(web):
    return [web, renamed(web, "".join("hgfedcba"[:len(web.places)])), Web(web.places, web.ties[::-1]), THREE, HOUSE]


class Slowly(Case):
    def check(self, claim, certificate):
        got = accepts(claim, certificate)
        self.assertIn(got, (True, False))
        self.assertIs(got.__class__, bool)
        self.assertIs(got, slow.accepts(claim, certificate), (claim, certificate))
        return got


class Shown(Slowly):
    def test_right_ones_and_the_same_with_one_thing_otherwise(self):
        dice = Dice(103)
        kinds = {}
        for web in SMALL:
            for claim, certificate in papers(web, dice, others_of(web)):
                self.assertTrue(self.check(claim, certificate), (claim, certificate))
                kinds.setdefault(claim[0], []).append((claim, certificate))
        self.assertEqual(set(kinds), set(slow.KINDS))
        for told in kinds.values():
            step = max(1, len(told) // 9)
            for claim, certificate in told[dice.below(step)::step]:
                self.check_otherwise(claim, certificate, dice)

    def check_otherwise(self, claim, certificate, dice):
        claims, certificates = list(altered(claim)), list(altered(certificate))
        for other in claims:
            self.check(other, certificate)
        for other in certificates:
            self.check(claim, other)
        for _ in range(60):
            self.check(claims[dice.below(len(claims))], certificates[dice.below(len(certificates))])

    def test_a_part_from_elsewhere(self):
        """Certificates of other claims of the same kind, and the parts of claims exchanged."""
        dice = Dice(107)
        told = [pair for web in (HOUSE, THREE, PATH) for pair in papers(web, dice, others_of(web))]
        for claim, _ in told[::2]:
            for other, certificate in told:
                if other[0] == claim[0] or other[1] == claim[1]:
                    self.check(claim, certificate)
                    self.check(other[:1] + claim[1:], certificate)
                    self.check(claim[:1] + other[1:2] + claim[2:], certificate)
                    self.check(claim[:2] + other[2:], certificate)

    def test_great_webs(self):
        dice = Dice(109)
        for web in (BIG, BIG_MIXED, CHAIN, WHEEL_AND_TWIG):
            for claim, certificate in papers(web, dice, [web, renamed(web, "hgfdcba"), BIG]):
                self.assertTrue(accepts(claim, certificate), (claim, certificate))

    def test_middle_webs(self):
        dice = Dice(113)
        for web in [*thrown_webs(127, 25, 6, 6), FULL, TWO_PARTS, NO_TIES]:
            for claim, certificate in papers(web, dice, others_of(web)):
                self.assertTrue(self.check(claim, certificate), (claim, certificate))

    def test_by_hand(self):
        self.assertIs(accepts(claim=("trees", "abc ab ab bc ac", 5), certificate=()), True)
        self.assertIs(accepts(("trees", "abc ab ab bc ac", 4), ()), False)
        self.assertIs(accepts(("ring", "a aa", "-"), (0,)), True)
        self.assertIs(accepts(("ringless", "a", ""), "a"), True)
        self.assertIs(accepts(("ringless", "a aa", "+"), "a"), False)
        self.assertIs(accepts(("no row", "abc ab ab bc ac", (4, 0, 0)), "bc"), True)
        self.assertIs(accepts(("no row", "abc ab ab bc ac", (4, 0, 0)), ""), False)
        self.assertIs(accepts(("no row", "abc ab ab bc ac", (5, 0, 0)), ""), True)
        self.assertIs(accepts(("no row", "abc ab ab bc ac", (5, 0, 0)), "bc"), True)
        self.assertIs(accepts(("turned", "abc ab ab bc ac", "+++-", "+++-"), ()), True)
        self.assertIs(accepts(("not alike", "ab ab ab", (0, 0), (1, -1)), (2, (1, 0))), True)
        self.assertIs(accepts(("not alike", "ab ab ab", (0, 0), (1, -1)), (2, (0, 1))), True)
        self.assertIs(accepts(("not alike", "ab ab ab", (0, 0), (1, -1)), (1, (0, 1))), False)
        self.assertIs(accepts(("not alike", "ab ab ab", (0, 0), (2, -2)), (2, (1, 0))), False)
        self.assertIs(accepts(("not alike", "ab ab ab", (0, 0), (1, 0)), (0, (3, 3))), True)
        self.assertIs(accepts(("lasting", "abc ab bc ac", "a", (0, 1, 0)), "bc"), True)
        self.assertIs(accepts(("lasting", "abc ab bc ac", "a", (1, 1, 0)), "bc"), False)
        self.assertIs(accepts(("lasting", "abc ab bc ac", "a", (0, 2, 0)), "bc"), False)
        self.assertIs(accepts(("lasting", "abc ab bc ac", "a", (0, 0, 0)), "bc"), False)
        self.assertIs(accepts(("apart", "ab", "a", "b", 0), ((), "a")), True)
        self.assertIs(accepts(("rank", "abc ab bc ac", (0, 0, 0), 0), ()), True)


class Every(Slowly):
    """All claims of some kinds about small webs, true and false ones, with all certificates that are near."""

    def check_all(self, claims, certificates):
        """Whatever is true is shown by some certificate, whatever is not by none."""
        for claim in claims:
            found = [shown for shown in certificates if self.check(claim, shown)]
            self.assertTrue(slow.is_claim(claim), claim)
            self.assertEqual(len(found) > 0, slow.is_true(claim), claim)

    def check_none(self, claims, certificates):
        """Of false claims."""
        for claim in claims:
            self.assertFalse(slow.is_true(claim))
            for shown in certificates:
                self.assertIs(accepts(claim, shown), False, (claim, shown))

    def test_like(self):
        webs = [Web("ab", ()), Web("cd", ("cd",)), Web("ab", ("aa",)), Web("be", ("ee",)), Web("ab", ("ab",)), RING_OF_TWO]
        letters = ["".join(row) for row in permutations("abcdeh", 2)] + ["a", "abc", "aa", "", ()]
        for one in webs:
            self.check_all([("like", one.text(), two.text()) for two in webs], letters)
            self.check_all([("unlike", one.text(), two.text()) for two in webs], letters)

    def test_numbers(self):
        for web in SMALL:
            self.check_all([("trees", web.text(), number) for number in range(-1, 9)], [()])
            self.check_none([("trees", web.text(), -number) for number in (1, 5)], [(), 1, (1,), None, "", ((),)])
            self.check_all([("not dyed", web.text(), number) for number in range(1, 8)], [()])
            rows = slow.table_of(web.text())
            self.check_all([("table", web.text(), rows), ("table", web.text(), rows[::-1]),
                            ("table", web.text(), tuple(row[::-1] for row in rows)), ("table", web.text(), ()),
                            ("table", web.text(), rows[:-1]), ("table", web.text(), ((),))], [()])
        for text in ("abc ab bc ac", "ab ab ab", "a", "abc ab bc"):
            many = len(slow.Plain(text).places)
            heaps = [heap for heap in product(range(-1, 3), repeat=many) if abs(sum(heap)) < 5]
            self.check_all([("rank", text, heap, number) for heap in heaps for number in range(-2, 4)], [()])

    def test_least_trees(self):
        for web in (HOUSE, RING_OF_TWO, LONE_LOOPS, APART):
            rows = [tuple((at * at + more) % 4 - 1 for at in range(len(web.ties))) for more in range(3)]
            claims = [("least tree", web.text(), row, number) for row in rows for number in range(-4, 5)]
            self.check_all(claims, oracle.all_lots(web))

    def test_leanings(self):
        for web in (HOUSE, THREE, RING_OF_TWO, APART, Web("bd", ("bb", "bd", "bd")), LONE, Web("bc", ())):
            leanings = ["".join(signs) for signs in product("+-", repeat=len(web.ties))]
            lots = oracle.all_lots(web)
            orders = ["".join(row) for many in range(len(web.places) + 1) for row in permutations(web.places, many)]
            self.check_all([("ring", web.text(), leaning) for leaning in leanings], lots)
            self.check_all([("ringless", web.text(), leaning) for leaning in leanings], orders)
            rings = [lot for lot in lots if len(lot) > 0]
            rows = [(), *[(lot,) for lot in rings], *combinations(rings, 2)]
            some = leanings[::3] if len(web.ties) > 3 else leanings
            self.check_all([("turned", web.text(), *pair) for pair in product(some, repeat=2)], rows)

    def test_rows(self):
        for web in (HOUSE, RING_OF_TWO, APART, Web("bd", ("bb", "bd", "bd")), LONE, Web("bc", ())):
            rows = list(product(range(5), repeat=len(web.places)))
            leanings = ["".join(signs) for signs in product("+-", repeat=len(web.ties))]
            self.check_all([("row", web.text(), row) for row in rows], leanings)
            self.check_all([("no row", web.text(), row) for row in rows], oracle.all_herds(web.places))

    def test_dyes(self):
        for web in (HOUSE, THREE, LONE, LONE_LOOPS, Web("bc", ()), APART):
            figures = ["".join(row) for row in product("1234", repeat=len(web.places))]
            self.check_all([("dyed", web.text(), number) for number in range(1, 5)], figures)
        figures = ["".join(row) for row in product("0123456789", repeat=2)]
        self.check_all([("dyed", "ab ab", number) for number in range(1, 8)], figures)

    def test_currents(self):
        for web in (THREE, RING_OF_TWO, Web("bd", ("bb", "bd", "bd")), LONE, APART):
            numbers = product(range(-2, 4), repeat=len(web.ties))
            pairs = [(-2, -1), (0, 1), (-1, 2), (1, 1), (2, 3)]
            rows = list(product(pairs, repeat=len(web.ties)))
            herds = oracle.all_herds(web.places)
            self.check_all([("barred", web.text(), row) for row in rows], herds)
            self.check_all([("current", web.text(), row) for row in rows[::4]], list(numbers))

    def test_parted(self):
        values = ((1, 2), (-1, 1))
        currents = list(product(((0, 1), (1, 2), (-3, 4), (3, 4), (-1, 1)), repeat=2))
        heights = list(product(((0, 1), (1, 4), (-1, 4), (-1, 2), (1, 1), (5, 4)), repeat=2))
        for web in (RING_OF_TWO, Web("ab", ("aa", "ab")), Web("ab", ("aa", "bb"))):
            for claim in [("parted", web.text(), values, current) for current in currents]:
                found = [shown for shown in heights if self.check(claim, shown)]
                self.assertLessEqual(len(found) > 0, slow.is_true(claim))
            self.assertTrue(any(slow.is_true(("parted", web.text(), values, current)) for current in currents))

    def test_heaps(self):
        rows = list(product(range(-2, 3), repeat=3))
        for text in ("abc ab bc ac", "abc ab bc", "abc ab ab bc ac"):
            heaps = [(0, 0, 0), (1, -1, 0), (2, -1, -1), (3, -3, 0), (-2, 1, 1), (1, 0, 0), (0, -2, 2), (-1, -1, 1)]
            pairs = [(number, row) for number in (0, 2, 3, 5) for row in rows]
            for one, two in product(heaps, repeat=2):
                self.check_all([("not alike", text, one, two)], pairs)
                found = [row for row in rows if self.check(("alike", text, one, two), row)]
                self.assertLessEqual(len(found) > 0, slow.is_true(("alike", text, one, two)))
            self.check_all([("free", text, heap) for heap in heaps], rows)
            banks = [(bank, row) for bank in "abc" for row in rows]
            for heap in heaps:
                found = [shown for shown in banks if self.check(("debt", text, heap), shown)]
                self.assertLessEqual(len(found) > 0, slow.is_true(("debt", text, heap)))
            claims = [("debt", text, heap) for heap in [*heaps, (2, -1, 0)]]
            self.check_none([claim for claim in claims if not slow.is_true(claim)], banks)

    def test_lasting(self):
        for text in ("abc ab bc ac", "abc ab ab bc ac", "ab ab ab ab", "c"):
            places = slow.Plain(text).places
            orders = ["".join(row) for many in range(len(places) + 1) for row in permutations(places, many)]
            for bank in places:
                heaps = [heap for heap in product(range(-1, 4), repeat=len(places)) if heap[places.index(bank)] == 0]
                self.check_all([("lasting", text, bank, heap) for heap in heaps], orders)

    def test_pulls_and_steps(self):
        parts = [(0, 1), (1, 3), (1, 2), (2, 3), (1, 1), (2, 1), (3, 1), (4, 1), (-1, 1)]
        for text in ("abc ab bc ac", "abc ab ab", "abc ab bc bb", "ab ab ab", "ab aa"):
            places = slow.Plain(text).places
            rows = list(product(parts[:7], repeat=len(places)))
            steps = list(product([None, *parts[:1], *parts[4:8]], repeat=len(places)))
            for one, two in permutations(places, 2):
                self.check_all([("pull", text, one, two, part) for part in parts[:7]], rows)
                self.check_all([("steps", text, one, two, part) for part in parts[:8]], steps)

    def test_amounts(self):
        for text in ("abc ab bc ac", "ab ab aa ab", "abc ab ab", "ab"):
            web = slow.Plain(text)
            rows = list(product(range(-3, 4), repeat=len(web.ties)))
            shown = [(row, herd) for row in rows for herd in oracle.all_herds(web.places)]
            for one, two in list(permutations(web.places, 2))[::2]:
                for rooms in ((1,) * len(web.ties), (2, 1, 3)[:len(web.ties)]):
                    self.check_all([("amount", text, rooms, one, two, number) for number in range(-1, 5)], shown)

    def test_apart(self):
        for text in ("abc ab bc ac", "ab ab aa ab", "abc ab ab", "ab"):
            web = slow.Plain(text)
            lots = oracle.all_lots(web)
            rows = [row for many in range(3) for row in product(lots, repeat=many)]
            shown = [(row, herd) for row in rows for herd in oracle.all_herds(web.places)]
            for one, two in permutations(web.places, 2):
                self.check_all([("apart", text, one, two, number) for number in range(-1, 4)], shown)


class Anything(Slowly):
    def test_values_of_any_kind(self):
        for claim in (*STRANGE, (), ("trees",), ("trees", "a"), ((),), (None, "a", 1), ("trees", "a", 1, 1), ["trees"],
                      ["trees", "a", 1], ("Trees", "a", 1), (("trees",), "a", 1), (b"trees", "a", 1), ([], "a", 1),
                      ("trees ", "a", 1), ("least  tree", "a", (), 0), ({}, "a"), "trees", ("trees", "a", 1)):
            for certificate in (*STRANGE, (), "", 0, 1, ((),)):
                self.assertIs(accepts(claim, certificate), claim == ("trees", "a", 1) and certificate == ()
                              and certificate.__class__ is tuple)

    def test_each_part_of_any_kind(self):
        dice = Dice(131)
        rows = (*STRANGE, (), ((),), DEEP, (DEEP, DEEP), (None,) * 3, (True,) * 3, ("a",) * 3, ((0, 1),) * 4, (1, (1,)),
                Same(), (Same(),), (Same(),) * 3, (Same(),) * 4, (0, Same()), (Same(), (0, 0, 0)))
        kinds = {}
        for web in (HOUSE, THREE):
            for claim, certificate in papers(web, dice, [THREE]):
                kinds[claim[0]] = (claim, certificate)
        kinds["debt"] = (("debt", "abc ab bc ac", (-1, 1, 0)), ("a", (0, 0, 0)))
        self.assertEqual(set(kinds), set(slow.KINDS))
        for claim, certificate in kinds.values():
            for other in rows:
                self.check(claim, other)
                for at in range(len(claim)):
                    self.check(claim[:at] + (other,) + claim[at + 1:], certificate)
                if certificate.__class__ is tuple:
                    for at in range(len(certificate)):
                        self.check(claim, certificate[:at] + (other,) + certificate[at + 1:])

    def test_truth_values_are_no_integers(self):
        for claim, certificate in (
            (("trees", "a", True), ()), (("table", "a", ((True,),)), ()), (("least tree", "a", (), False), ()),
            (("least tree", "ab ab", (0,), 0), (False,)), (("row", "ab ab", (True, False)), "+"),
            (("dyed", "a", True), "1"), (("current", "a aa", ((0, 1),)), (True,)),
            (("current", "a aa", ((False, True),)), (1,)), (("alike", "ab ab", (1, 0), (0, 1)), (True, 0)),
            (("alike", "ab ab", (True, 0), (0, 1)), (1, 0)), (("rank", "a", (0,), False), ()),
            (("pull", "ab ab", "a", "b", (True, 1)), ((1, 1), (0, 1))), (("free", "a", (0,)), (False,)),
            (("pull", "ab ab", "a", "b", (1, 1)), ((1, True), (0, 1))), (("ring", "a aa", "+"), (False,)),
            (("amount", "ab ab", (1,), "a", "b", True), ((1,), "a")), (("amount", "ab ab", (1,), "a", "b", 1), ((True,), "a")),
            (("amount", "ab ab", (True,), "a", "b", 1), ((1,), "a")), (("apart", "ab ab", "a", "b", True), (((0,),), "a")),
            (("apart", "ab ab", "a", "b", 1), (((False,),), "a")), (("not alike", "a", (0,), (1,)), (False, (1,))),
            (("not alike", "a", (0,), (1,)), (0, (True,))), (("lasting", "ab ab", "a", (0, False)), "b"),
            (("turned", "a aa", "+", "-"), ((False,),)), (("debt", "ab ab", (-1, 0)), ("a", (False, 0))),
        ):
            self.assertFalse(self.check(claim, certificate), (claim, certificate))

    def test_numbers_at_their_bounds(self):
        for claim, near, beyond in (
            (("alike", "a", (5,), (5,)), (FAR,), (FAR + 1,)),
            (("alike", "a", (5,), (5,)), (-FAR,), (-FAR - 1,)),
            (("alike", "ab ab", (1, 0), (0, 1)), (FAR, FAR - 1), (FAR + 1, FAR)),
            (("alike", "ab ab", (1, 0), (0, 1)), (1 - FAR, -FAR), (-FAR, -FAR - 1)),
            (("not alike", "a", (5,), (6,)), (0, (FAR,)), (0, (FAR + 1,))),
            (("not alike", "a", (5,), (6,)), (FAR, (1,)), (FAR + 1, (1,))),
            (("not alike", "a", (5,), (6,)), (0, (-FAR,)), (0, (-FAR - 1,))),
            (("free", "ab ab", (1, 0)), (FAR, FAR), (FAR + 1, FAR + 1)),
            (("debt", "ab ab", (-1, 0)), ("a", (FAR, FAR)), ("a", (FAR + 1, FAR + 1))),
            (("parted", "a aa", ((1, 1),), ((1, 1),)), ((FAR, 1),), ((FAR + 1, 1),)),
            (("parted", "a aa", ((1, 1),), ((1, 1),)), ((-FAR, 1),), ((-FAR - 1, 1),)),
            (("parted", "a aa", ((1, 1),), ((1, 1),)), ((1, FAR),), ((1, FAR + 1),)),
        ):
            self.assertTrue(self.check(claim, near), (claim, near))
            self.assertFalse(self.check(claim, beyond), (claim, beyond))

    def test_great_numbers_in_claims(self):
        for claim, certificate in (
            (("trees", "a", FAR), ()), (("trees", "a", FAR + 1), ()), (("rank", "a", (0,), FAR), ()),
            (("row", "a aa", (10 ** 6 + 1,)), "+"), (("no row", "a aa", (10 ** 6 + 1,)), ""),
            (("free", "a", (9,)), (0,)), (("debt", "a", (-9,)), ("a", (0,))), (("rank", "a", (9,), 9), ()),
            (("alike", "a", (10 ** 6 + 1,), (10 ** 6 + 1,)), (0,)), (("dyed", "a", 8), "1"), (("not dyed", "a aa", 8), ()),
            (("dyed", "a", 0), "1"), (("not dyed", "a aa", 0), ()), (("current", "a aa", ((0, 10 ** 12 + 1),)), (0,)),
            (("amount", "ab ab", (10 ** 12 + 1,), "a", "b", 10 ** 12 + 1), ((10 ** 12 + 1,), "a")),
            (("least tree", "ab ab", (10 ** 9 + 1,), 10 ** 9 + 1), (0,)),
            (("parted", "a aa", ((10 ** 6 + 1, 1),), ((10 ** 6 + 1, 1),)), ((0, 1),)),
            (("parted", "a aa", ((1, 1001),), ((1, 1001),)), ((0, 1),)),
            (("pull", "ab ab", "a", "b", (FAR + 1, FAR + 1)), ((1, 1), (0, 1))),
        ):
            self.assertFalse(self.check(claim, certificate), (claim, certificate))
        for claim, certificate in (
            (("no row", "a aa", (10 ** 6,)), ""), (("free", "a", (8,)), (0,)), (("debt", "a", (-8,)), ("a", (0,))),
            (("rank", "a", (8,), 8), ()), (("alike", "a", (10 ** 6,), (10 ** 6,)), (0,)), (("dyed", "a", 7), "7"),
            (("not dyed", "a aa", 7), ()), (("current", "a aa", ((0, 10 ** 12),)), (10 ** 12,)),
            (("amount", "ab ab", (10 ** 12,), "a", "b", 10 ** 12), ((10 ** 12,), "a")),
            (("least tree", "ab ab", (10 ** 9,), 10 ** 9), (0,)),
            (("parted", "a aa", ((10 ** 6, 999),), ((10 ** 6, 999),)), ((0, 1),)),
        ):
            self.assertTrue(self.check(claim, certificate), (claim, certificate))

    def test_nothing_is_altered(self):
        claim = ["trees", "a", 1]
        self.assertIs(accepts(claim, []), False)
        self.assertEqual(claim, ["trees", "a", 1])
        self.unaltered(accepts, ("table", HOUSE.text(), slow.table_of(HOUSE.text())), ())


if __name__ == "__main__":
    unittest.main()
