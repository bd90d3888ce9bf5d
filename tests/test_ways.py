import unittest
from itertools import product

import oracle
import oracle_ways as told
from cases import Case
from samples import (
    BIG, BIG_MIXED, CHAIN, FULL, HOUSE, LONE, LONE_LOOPS, NO_TIES, PATH, RING_OF_TWO, STAR, THREE, TIES_OF_TWO,
    TWO_PARTS, WHEEL_AND_TWIG, Dice, few_webs, middle_webs, thrown_webs, tiny_webs, wrong_places, wrong_rooms,
    wrong_webs,
)
from webreckon.errors import InvalidRooms, Refused, UnknownPlace
from webreckon.lots import is_two_sided
from webreckon.ways import (
    amount, apart, carried, clear, count_apart, count_clear, cut_tree, joined_by, least_herds, narrowest,
    parting_places,
)
from webreckon.webs import Web, is_whole, renamed

FAR = 10 ** 12
GREAT_WEBS = (BIG, BIG_MIXED, CHAIN, WHEEL_AND_TWIG)
WITH_ROOMS = (amount, carried, narrowest)
WITHOUT_ROOMS = (count_apart, count_clear, apart, clear, parting_places)


def pairs_of(web):
    return [(one, two) for one in web.places for two in web.places if one != two]


def webs_with_ways():
    return [*tiny_webs()[::5], *few_webs(), FULL, PATH, TIES_OF_TWO, THREE, STAR, *thrown_webs(61, 16, 6, 7)]


def thrown_rooms(web, dice, most):
    return tuple(dice.below(most + 1) for _ in web.ties)


class Amounts(Case):
    def check_amount(self, web, rooms, one, two):
        greatest = told.least_width(web, rooms, one, two)
        self.assertEqual(amount(web, rooms, one, two), greatest)
        self.assertIs(amount(web, rooms, one, two).__class__, int)
        row = carried(web, rooms, one, two)
        self.assertIs(row.__class__, tuple)
        self.assertEqual({number.__class__ for number in row}, {int} if row else set())
        self.assertEqual(told.carries(web, rooms, row, one, two), greatest)
        self.check_narrowest(web, rooms, one, two, greatest)

    def check_narrowest(self, web, rooms, one, two, greatest):
        herds = [herd for herd in told.herds_between(web, one, two) if told.width(web, rooms, herd) == greatest]
        found = narrowest(web, rooms, one, two)
        self.assertIn(found, herds)
        self.assertEqual(len(found), min(map(len, herds)))
        for herd in herds:
            self.assertLessEqual(set(found), set(herd))

    def test_against_all_tuples(self):
        dice = Dice(19)
        for web in [web for web in webs_with_ways() if len(web.ties) < 6]:
            rooms = thrown_rooms(web, dice, 2)
            for one, two in pairs_of(web):
                self.assertEqual(amount(web, rooms, one, two), told.greatest_amount(web, rooms, one, two))

    def test_against_all_herds(self):
        dice = Dice(29)
        for web in [*webs_with_ways(), *GREAT_WEBS, *middle_webs()[::3]]:
            for most in (1, 3, FAR):
                rooms = thrown_rooms(web, dice, most)
                for one, two in pairs_of(web):
                    self.check_amount(web, rooms, one, two)

    def test_all_small_rooms(self):
        for web in (THREE, RING_OF_TWO, PATH, Web("abc", ("ab", "ab", "bb", "bc"))):
            for rooms in product(range(3), repeat=len(web.ties)):
                for one, two in pairs_of(web):
                    self.check_amount(web, rooms, one, two)

    def test_rooms_at_their_bounds(self):
        for web in (*GREAT_WEBS, HOUSE, TIES_OF_TWO):
            for room in (0, FAR, FAR - 1):
                for one, two in pairs_of(web):
                    self.check_amount(web, (room,) * len(web.ties), one, two)
        self.assertEqual(amount(TIES_OF_TWO, (FAR,) * 5, "b", "h"), 5 * FAR)

    def test_by_hand(self):
        self.assertEqual(amount(web=THREE, rooms=(5, 2, 4), place="a", other_place="c"), 6)
        self.assertEqual(narrowest(web=THREE, rooms=(5, 2, 4), place="a", other_place="c"), "ab")
        self.assertEqual(narrowest(THREE, (5, 2, 4), "c", "a"), "c")
        self.assertEqual(carried(web=THREE, rooms=(5, 2, 4), place="a", other_place="c"), (2, 2, 4))
        self.assertEqual(carried(THREE, (5, 2, 4), "c", "a"), (-2, -2, -4))
        self.assertEqual(narrowest(THREE, (0, 0, 0), "a", "c"), "a")
        self.assertEqual(amount(NO_TIES, (), "b", "g"), 0)
        self.assertEqual(carried(NO_TIES, (), "b", "g"), ())
        self.assertEqual(narrowest(NO_TIES, (), "g", "b"), "g")
        self.assertEqual(carried(TIES_OF_TWO, (1, 2, 0, 3, 4), "h", "b"), (-1, -2, 0, -3, -4))
        self.assertEqual(amount(Web("ab", ("aa", "ab", "bb")), (FAR, 3, FAR), "a", "b"), 3)


class Ways(Case):
    def check_ways(self, web, lots, one, two):
        self.assertIs(lots.__class__, tuple)
        for lot in lots:
            self.assertIs(lot.__class__, tuple)
            self.assertEqual(list(lot), sorted(set(lot)))
            self.assertTrue(told.is_way(web, lot, one, two))
        self.assertTrue(told.are_apart(lots))

    def check_counts(self, web, one, two):
        lots = told.ways(web, one, two)
        self.assertEqual(count_apart(web, one, two), told.most_of(lots, told.are_apart))
        self.assertEqual(count_clear(web, one, two),
                         told.most_of(lots, lambda some: told.are_clear(web, some, one, two)))

    def check_some(self, web, one, two):
        some = apart(web, one, two)
        self.check_ways(web, some, one, two)
        self.assertEqual(len(some), count_apart(web, one, two))
        some = clear(web, one, two)
        self.check_ways(web, some, one, two)
        self.assertTrue(told.are_clear(web, some, one, two))
        self.assertEqual(len(some), count_clear(web, one, two))

    def check_parting(self, web, one, two):
        found = parting_places(web, one, two)
        if "".join(sorted(one + two)) in web.ties:
            self.assertIsNone(found)
            return
        herds = told.parting_herds(web, one, two)
        self.assertIn(found, herds)
        self.assertEqual(len(found), min(map(len, herds)))
        self.assertEqual(len(found), count_clear(web, one, two))

    def test_small_webs(self):
        for web in webs_with_ways():
            for one, two in pairs_of(web):
                self.check_counts(web, one, two)
                self.check_some(web, one, two)
                self.check_parting(web, one, two)

    def test_great_webs(self):
        for web in GREAT_WEBS:
            ones = (1,) * len(web.ties)
            for one, two in pairs_of(web):
                self.check_some(web, one, two)
                self.assertEqual(count_apart(web, one, two), told.least_width(web, ones, one, two))
                if one < two:
                    self.check_parting(web, one, two)
                    self.assertEqual(count_clear(web, one, two), count_clear(web, two, one))
        self.check_counts(BIG, "a", "f")
        self.check_counts(BIG_MIXED, "b", "d")

    def test_more_great_webs(self):
        """As many ways as they count, in webs full of ways."""
        for web in thrown_webs(83, 150, 7, 11):
            for one, two in pairs_of(web)[::7]:
                some = apart(web, one, two)
                self.check_ways(web, some, one, two)
                self.assertEqual(len(some), count_apart(web, one, two))
                some = clear(web, one, two)
                self.assertTrue(told.are_clear(web, some, one, two))
                self.assertEqual(len(some), count_clear(web, one, two))

    def test_by_hand(self):
        self.assertEqual(count_apart(web=HOUSE, place="a", other_place="b"), 3)
        self.assertEqual(count_clear(web=HOUSE, place="a", other_place="b"), 3)
        self.assertEqual(sorted(apart(web=HOUSE, place="a", other_place="b")), [(0,), (1,), (2, 3)])
        self.assertEqual(sorted(clear(web=HOUSE, place="a", other_place="b")), [(0,), (1,), (2, 3)])
        self.assertIsNone(parting_places(web=HOUSE, place="a", other_place="b"))
        bow = Web("abcde", ("ac", "bc", "ab", "cd", "ce", "de"))
        self.assertEqual(parting_places(bow, "a", "e"), "c")
        self.assertEqual([count_apart(bow, "a", "e"), count_clear(bow, "a", "e")], [2, 1])
        self.assertEqual(apart(NO_TIES, "b", "d"), ())
        self.assertEqual(clear(NO_TIES, "b", "d"), ())
        self.assertEqual(parting_places(NO_TIES, "b", "d"), "")
        self.assertEqual(parting_places(TWO_PARTS, "a", "b"), "")
        self.assertEqual(count_apart(TWO_PARTS, "a", "b"), 0)
        self.assertIn(parting_places(PATH, "b", "e"), ("c", "h"))
        self.assertEqual(count_apart(TIES_OF_TWO, "h", "b"), 5)
        self.assertEqual(count_clear(TIES_OF_TWO, "h", "b"), 5)
        self.assertEqual(count_clear(FULL, "a", "f"), 3)


class CutTrees(Case):
    def check_cut_tree(self, web, rooms):
        found = cut_tree(web, rooms)
        self.assertIs(found.__class__, tuple)
        self.assertEqual(len(found), len(web.places) - 1)
        for triple in found:
            self.assertIs(triple.__class__, tuple)
            one, two, number = triple
            self.assertTrue(one in web.places and two in web.places and number.__class__ is int)
        for one, two in pairs_of(web):
            self.assertEqual(told.least_on_the_way(found, one, two), told.least_width(web, rooms, one, two))

    def test_webs(self):
        dice = Dice(37)
        for web in [*webs_with_ways(), *GREAT_WEBS, *middle_webs()[::2]]:
            for most in (1, 2, 9, FAR):
                self.check_cut_tree(web, thrown_rooms(web, dice, most))
            self.check_cut_tree(web, (1,) * len(web.ties))
            self.check_cut_tree(web, (0,) * len(web.ties))

    def test_by_hand(self):
        self.assertEqual(cut_tree(web=LONE, rooms=()), ())
        self.assertEqual(cut_tree(LONE_LOOPS, (1, 2, 3)), ())
        self.assertEqual(sorted(number for _, _, number in cut_tree(web=THREE, rooms=(5, 2, 4))), [6, 7])
        self.assertEqual({number for _, _, number in cut_tree(NO_TIES, ())}, {0})


class Joined(Case):
    def check_joined(self, web):
        herds = told.herds_from_first(web)
        if len(web.places) == 1:
            self.assertIsNone(joined_by(web))
            self.assertEqual(least_herds(web), ())
            return
        least = min(herds.values())
        self.assertEqual(joined_by(web), least)
        self.assertEqual(joined_by(web) > 0, is_whole(web))
        right = sorted((herd for herd, many in herds.items() if many == least), key=lambda herd: (len(herd), herd))
        self.assertEqual(least_herds(web), tuple(right))

    def test_webs(self):
        for web in [*tiny_webs()[::2], *webs_with_ways(), *middle_webs(), *GREAT_WEBS]:
            self.check_joined(web)

    def test_all_lots_of_small_webs(self):
        """No lot of fewer ties leaves the web in pieces, and some lot of as many does."""
        for web in webs_with_ways():
            if len(web.places) == 1:
                continue
            lots = oracle.Lots(web)
            parting = [len(web.ties) - len(lot) for lot in lots.lots if len(lots.pieces[lot]) > 1]
            self.assertEqual(joined_by(web), min(parting))

    def test_each_herd_parts(self):
        for web in GREAT_WEBS:
            for herd in least_herds(web):
                lot = tuple(index for index, tie in enumerate(web.ties) if (tie[0] in herd) != (tie[1] in herd))
                self.assertTrue(is_two_sided(web, lot))
                self.assertEqual(len(lot), joined_by(web))

    def test_by_hand(self):
        self.assertIsNone(joined_by(web=LONE))
        self.assertIsNone(joined_by(LONE_LOOPS))
        self.assertEqual(joined_by(NO_TIES), 0)
        self.assertEqual(joined_by(TIES_OF_TWO), 5)
        self.assertEqual(joined_by(THREE), 2)
        self.assertEqual(least_herds(web=THREE), ("a", "ab", "ac"))
        self.assertEqual(least_herds(LONE), ())
        self.assertEqual(least_herds(NO_TIES), ("b", "bd", "bf", "bg", "bdf", "bdg", "bfg"))
        self.assertEqual(least_herds(renamed(THREE, "hcd")), ("c", "cd", "ch"))


class Errors(Case):
    def test_of_a_web(self):
        for call in (joined_by, least_herds):
            self.check_errors(call, [("web", HOUSE, wrong_webs())])

    def test_of_rooms(self):
        for web in (HOUSE, LONE, NO_TIES):
            self.check_errors(cut_tree, [("web", web, wrong_webs()), ("rooms", (1,) * len(web.ties), wrong_rooms(web))])

    def test_with_rooms(self):
        for call in WITH_ROOMS:
            for web, one, two in ((HOUSE, "b", "a"), (NO_TIES, "f", "g")):
                wrongs = wrong_places(web)
                self.check_errors(call, [
                    ("web", web, wrong_webs()), ("rooms", (2,) * len(web.ties), wrong_rooms(web)),
                    ("place", one, wrongs), ("other_place", two, wrongs + [(one, Refused, "value", one)]),
                ])

    def test_without_rooms(self):
        for call in WITHOUT_ROOMS:
            for web, one, two in ((HOUSE, "b", "a"), (NO_TIES, "f", "g")):
                wrongs = wrong_places(web)
                self.check_errors(call, [
                    ("web", web, wrong_webs()), ("place", one, wrongs),
                    ("other_place", two, wrongs + [(one, Refused, "value", one)]),
                ])

    def test_the_same_place_twice(self):
        for call in WITHOUT_ROOMS:
            for web in (HOUSE, LONE, LONE_LOOPS, BIG):
                for place in web.places:
                    self.raises(Refused, "value", place, call, web, place, place)
            self.raises(UnknownPlace, "value", "z", call, HOUSE, "z", "z")
        for call in WITH_ROOMS:
            for web in (HOUSE, LONE, LONE_LOOPS, BIG):
                for place in web.places:
                    self.raises(Refused, "value", place, call, web, (1,) * len(web.ties), place, place)
            self.raises(UnknownPlace, "value", "z", call, HOUSE, (1,) * 4, "z", "z")
            self.raises(InvalidRooms, "index", 3, call, HOUSE, (1, 1, 1, FAR + 1), "a", "a")
            self.raises(InvalidRooms, "index", 0, call, HOUSE, (-1, 1, 1, FAR + 1), "a", "a")

    def test_rooms_just_at_the_bounds(self):
        for call in WITH_ROOMS:
            call(HOUSE, (0, FAR, 0, FAR), "a", "b")
        cut_tree(HOUSE, (0, FAR, 0, FAR))

    def test_nothing_is_altered(self):
        for call in WITH_ROOMS:
            self.unaltered(call, BIG_MIXED, tuple(range(11)), "c", "d")
        for call in WITHOUT_ROOMS:
            self.unaltered(call, BIG_MIXED, "c", "d")
        self.unaltered(cut_tree, BIG, tuple(range(11)))
        for call in (joined_by, least_herds):
            self.unaltered(call, BIG)


if __name__ == "__main__":
    unittest.main()
