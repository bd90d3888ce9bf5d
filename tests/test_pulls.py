import unittest
from fractions import Fraction
from math import gcd

import oracle
import oracle_heaps as told
from cases import Case
from samples import (
    BIG, BIG_MIXED, CHAIN, FULL, HOUSE, LONE, LONE_LOOPS, NO_TIES, PATH, RING_OF_TWO, THREE, TIES_OF_TWO, TWO_PARTS,
    WHEEL_AND_TWIG, few_webs, middle_webs, thrown_webs, tiny_webs, wrong_places, wrong_webs,
)
from webreckon.lots import rank
from webreckon.pulls import heights_between, pull, shares, steps, there_and_back
from webreckon.webs import Web, put

GREAT_WEBS = (BIG, BIG_MIXED, CHAIN, WHEEL_AND_TWIG)
CALLS = (pull, heights_between, steps, there_and_back)


def webs_to_pull():
    return [*tiny_webs()[::5], *few_webs(), FULL, PATH, TIES_OF_TWO, *thrown_webs(81, 8, 6, 6)]


def all_ties(web):
    return tuple(range(len(web.ties)))


def piece_of(web, place):
    return [piece for piece in oracle.pieces(web, all_ties(web)) if place in piece][0]


class Pulls(Case):
    def worth(self, part):
        self.assertIs(part.__class__, tuple)
        top, bottom = part
        self.assertTrue(top.__class__ is int and bottom.__class__ is int and bottom > 0 and gcd(top, bottom) == 1)
        return Fraction(top, bottom)

    def check_heights(self, web, place, other):
        """One unit in at the first place and out at the other one, 0 there and in other pieces."""
        found = heights_between(web, place, other)
        if other not in piece_of(web, place):
            self.assertIsNone(found)
            self.assertIsNone(pull(web, place, other))
            return
        self.assertIs(found.__class__, tuple)
        heights = [self.worth(part) for part in found]
        for at, height in zip(web.places, heights):
            if at == other or at not in piece_of(web, place):
                self.assertEqual(height, 0)
        wanted = [(at == place) - (at == other) for at in web.places]
        self.assertEqual(told.flows_out(web, heights), wanted)
        self.assertEqual(pull(web, place, other), found[web.places.index(place)])
        self.assertEqual(pull(web, place, other), pull(web, other, place))

    def test_heights(self):
        for web in [*webs_to_pull(), *middle_webs(), *GREAT_WEBS]:
            for place in web.places:
                for other in web.places:
                    self.check_heights(web, place, other)

    def test_by_the_numbers_of_trees(self):
        for web in webs_to_pull()[::2]:
            for place in web.places:
                for other in web.places:
                    self.assertEqual(pull(web, place, other), told.pull(web, place, other))
        for web in (BIG, BIG_MIXED):
            for place, other in ("ab", "ag", "cf", "dg", "bf"):
                if place in web.places and other in web.places:
                    self.assertEqual(pull(web, place, other), told.pull(web, place, other))

    def check_shares(self, web):
        found = shares(web)
        self.assertIs(found.__class__, tuple)
        trees = oracle.Lots(web).trees()
        parts = [self.worth(part) for part in found]
        self.assertEqual(parts, [Fraction(sum(index in tree for tree in trees), len(trees)) for index in all_ties(web)])
        self.assertEqual(found, tuple(pull(web, *tie) for tie in web.ties))
        self.assertEqual(sum(parts), rank(web, all_ties(web)))

    def test_shares(self):
        for web in [*webs_to_pull(), *GREAT_WEBS]:
            self.check_shares(web)

    def test_a_tie_more_never_makes_a_pull_greater(self):
        for web in (HOUSE, PATH, TWO_PARTS, THREE):
            for one in web.places:
                for two in web.places:
                    more = put(web, one, two)
                    for place in web.places:
                        for other in web.places:
                            before = pull(web, place, other)
                            if before is not None:
                                self.assertLessEqual(self.worth(pull(more, place, other)), self.worth(before))

    def test_by_hand(self):
        self.assertEqual(pull(web=THREE, place="a", other_place="b"), (2, 3))
        self.assertEqual(pull(THREE, "c", "c"), (0, 1))
        self.assertEqual(pull(TIES_OF_TWO, "b", "h"), (1, 5))
        self.assertEqual(pull(PATH, "b", "e"), (3, 1))
        self.assertEqual(pull(LONE_LOOPS, "d", "d"), (0, 1))
        self.assertIsNone(pull(NO_TIES, "b", "d"))
        self.assertIsNone(pull(TWO_PARTS, "a", "b"))
        self.assertEqual(heights_between(web=THREE, place="a", other_place="b"), ((2, 3), (0, 1), (1, 3)))
        self.assertEqual(heights_between(THREE, "b", "b"), ((0, 1),) * 3)
        self.assertEqual(heights_between(TWO_PARTS, "c", "c"), ((0, 1),) * 6)
        self.assertEqual(heights_between(TWO_PARTS, "a", "c"), ((1, 2),) + ((0, 1),) * 5)
        self.assertIsNone(heights_between(NO_TIES, "f", "g"))
        self.assertEqual(shares(web=HOUSE), ((2, 5), (2, 5), (3, 5), (3, 5)))
        self.assertEqual(shares(LONE), ())
        self.assertEqual(shares(LONE_LOOPS), ((0, 1),) * 3)
        self.assertEqual(shares(PATH), ((1, 1),) * 3)


class Walks(Case):
    def check_steps(self, web, goal):
        """From each other place one more than the mean of those from the ends of its ties but loops."""
        found = {place: steps(web, place, goal) for place in web.places}
        self.assertEqual(found[goal], (0, 1))
        worth = {place: part and Fraction(*part) for place, part in found.items()}
        for place in web.places:
            if place not in piece_of(web, goal):
                self.assertIsNone(found[place])
            elif place != goal:
                self.assertEqual((worth[place].numerator, worth[place].denominator), found[place])
                ends = [told.other_end(web, index, place) for index in told.ties_at(web, place)]
                ends = [end for end in ends if end != place]
                self.assertEqual(worth[place], 1 + sum(worth[end] for end in ends) / len(ends))

    def check_both_ways(self, web, place, other):
        found = there_and_back(web, place, other)
        if other not in piece_of(web, place):
            self.assertIsNone(found)
            return
        ties = [tie for tie in web.ties if tie[0] in piece_of(web, place) and tie[0] != tie[1]]
        part = 2 * len(ties) * Fraction(*pull(web, place, other))
        self.assertEqual(found, (part.numerator, part.denominator))
        self.assertEqual(part, Fraction(*steps(web, place, other)) + Fraction(*steps(web, other, place)))

    def test_webs(self):
        for web in [*webs_to_pull(), *middle_webs()[::2], *GREAT_WEBS]:
            for place in web.places:
                self.check_steps(web, place)
                for other in web.places:
                    self.check_both_ways(web, place, other)

    def test_by_hand(self):
        self.assertEqual(steps(web=THREE, place="a", other_place="b"), (2, 1))
        self.assertEqual(steps(THREE, "a", "a"), (0, 1))
        self.assertEqual(steps(PATH, "b", "h"), (1, 1))
        self.assertEqual(steps(PATH, "h", "b"), (5, 1))
        self.assertEqual(steps(RING_OF_TWO, "c", "e"), (1, 1))
        self.assertEqual(steps(Web("ab", ("aa", "ab", "aa", "bb")), "a", "b"), (1, 1))
        self.assertEqual(steps(HOUSE, "a", "c"), (3, 1))
        self.assertIsNone(steps(NO_TIES, "b", "g"))
        self.assertEqual(steps(LONE_LOOPS, "d", "d"), (0, 1))
        self.assertEqual(there_and_back(web=THREE, place="a", other_place="b"), (4, 1))
        self.assertEqual(there_and_back(PATH, "h", "b"), (6, 1))
        self.assertEqual(there_and_back(LONE, "h", "h"), (0, 1))
        self.assertIsNone(there_and_back(TWO_PARTS, "e", "d"))


class Errors(Case):
    def test_of_a_web(self):
        self.check_errors(shares, [("web", HOUSE, wrong_webs())])

    def test_of_places(self):
        for call in CALLS:
            for web, place in ((HOUSE, "b"), (LONE, "h"), (NO_TIES, "f")):
                wrongs = wrong_places(web)
                self.check_errors(call, [("web", web, wrong_webs()), ("place", place, wrongs),
                                         ("other_place", web.places[-1], wrongs)])

    def test_nothing_is_altered(self):
        for call in CALLS:
            self.unaltered(call, BIG_MIXED, "c", "d")
        self.unaltered(shares, BIG_MIXED)


if __name__ == "__main__":
    unittest.main()
