import unittest
from fractions import Fraction
from itertools import product
from math import gcd

import oracle
import oracle_rows as told
from cases import Case
from samples import (
    BIG, BIG_MIXED, CHAIN, FULL, HOUSE, LONE, LONE_LOOPS, NO_TIES, PATH, RING_OF_TWO, THREE, TIES_OF_TWO, TWO_PARTS,
    WHEEL_AND_TWIG, Dice, few_webs, middle_webs, thrown_webs, tiny_webs, wrong_bounds, wrong_numbers, wrong_values,
    wrong_webs,
)
from webreckon.currents import (
    barring_herd, bounded, count_currents, current_counts, even_cuts, heights_of, least_rest, parted, some_current,
)
from webreckon.errors import InvalidBounds, InvalidValues
from webreckon.lots import bridges, is_even, is_two_sided, spare
from webreckon.table import value
from webreckon.webs import Web

FAR = 10 ** 12
# A place tied to a ring of three: no current of integers less than 3 in size is there.
FOUR_NEEDED = Web("abcdef", ("ab", "ac", "ad", "bc", "cd", "bd", "ee", "ef", "ef", "bb", "ef"))


def webs_to_flow(most_ties):
    webs = [*tiny_webs()[::3], *few_webs(), FULL, THREE, PATH, TIES_OF_TWO, *thrown_webs(71, 12, 5, 6)]
    return [web for web in webs if len(web.ties) <= most_ties]


def at(counts, number):
    return sum(many * number ** power for power, many in enumerate(counts))


class ByRests(Case):
    def check_counts(self, web, numbers):
        counts = current_counts(web)
        self.assertIs(counts.__class__, tuple)
        ties = tuple(range(len(web.ties)))
        self.assertEqual(len(counts), spare(web, ties) + 1)
        for number in numbers:
            many = told.currents_by_rests(web, number)
            self.assertEqual(at(counts, number), many)
            self.assertEqual(count_currents(web, number), many)
        for number in (2, 3, 10, 100):
            worth = value(web, (0, 1), (1 - number, 1))[0]
            self.assertEqual(count_currents(web, number), (-1) ** spare(web, ties) * worth)
        self.assertIs(not any(counts), bridges(web) != ())

    def check_some(self, web, numbers):
        for number in numbers:
            found = some_current(web, number)
            if found is None:
                self.assertEqual(count_currents(web, number), 0)
                continue
            self.assertGreater(count_currents(web, number), 0)
            self.assertIs(found.__class__, tuple)
            self.assertEqual(len(found), len(web.ties))
            self.assertTrue(told.is_current(web, found))
            self.assertTrue(all(worth.__class__ is int and 0 < abs(worth) < number for worth in found))
        some = [number for number in range(2, 7) if count_currents(web, number)]
        self.assertEqual(least_rest(web), some[0] if some else None)
        self.assertIs(least_rest(web) is None, bridges(web) != ())

    def test_small_webs(self):
        for web in webs_to_flow(6):
            self.check_counts(web, (2, 3, 4))
            self.check_some(web, (2, 3, 4, 5, 6, 99, 100))

    def test_as_going_through_all_rows(self):
        for web in webs_to_flow(5):
            for number in (2, 3):
                self.assertIs(some_current(web, number) is not None, told.has_current(web, number))
        for web in webs_to_flow(4):
            self.assertIs(some_current(web, 4) is not None, told.has_current(web, 4))
        self.assertFalse(told.has_current(FULL, 3))
        self.assertTrue(told.has_current(FULL, 4))

    def test_big_webs(self):
        for web in (BIG, BIG_MIXED, CHAIN, WHEEL_AND_TWIG, FOUR_NEEDED):
            self.check_counts(web, (2, 3))
            self.check_some(web, (2, 3, 4, 5, 6, 7, 50, 100))
        for web in thrown_webs(73, 60, 7, 11):
            self.check_some(web, (2, 3, 4, 100))

    def test_webs_with_four_needed(self):
        rows = ("ab", "ac", "ad", "bc", "bd", "cd")
        for ties in product(rows, repeat=2):
            self.check_some(Web("abcd", rows + ties), (2, 3, 4, 5))
        self.check_some(Web("abcd", rows + ("ab", "ac", "cd", "bd", "ad")), (2, 3, 4))
        self.assertEqual(least_rest(FOUR_NEEDED), 4)

    def test_by_hand(self):
        self.assertEqual(current_counts(web=THREE), (-1, 1))
        self.assertEqual(current_counts(LONE), (1,))
        self.assertEqual(current_counts(NO_TIES), (1,))
        self.assertEqual(current_counts(LONE_LOOPS), (-1, 3, -3, 1))
        self.assertEqual(current_counts(PATH), (0,))
        self.assertEqual(current_counts(Web("ab", ("ab", "aa"))), (0, 0))
        self.assertEqual(count_currents(web=THREE, number=5), 4)
        self.assertEqual(count_currents(THREE, 100), 99)
        self.assertEqual(count_currents(LONE, 2), 1)
        self.assertEqual([least_rest(web) for web in (LONE, LONE_LOOPS, THREE, HOUSE, FULL)], [2, 2, 2, 3, 4])
        self.assertIsNone(least_rest(web=PATH))
        self.assertIsNone(some_current(web=PATH, number=100))
        self.assertEqual(some_current(LONE, 2), ())
        self.assertIn(some_current(RING_OF_TWO, 2), ((1, -1), (-1, 1)))
        self.assertIsNone(some_current(HOUSE, 2))
        self.assertIsNone(some_current(FULL, 3))


class Bounds(Case):
    def check_bounds(self, web, bounds):
        found, herd = bounded(web, bounds), barring_herd(web, bounds)
        self.assertIs(found is None, herd is not None)
        if found is None:
            self.assertIn(herd, oracle.all_herds(web.places))
            self.assertTrue(told.bars_bounds(web, bounds, herd))
        else:
            self.assertIs(found.__class__, tuple)
            self.assertEqual(len(found), len(web.ties))
            self.assertTrue(all(worth.__class__ is int for worth in found))
            self.assertTrue(told.is_current(web, found))
            self.assertTrue(told.is_within(found, bounds))
        return found

    def thrown(self, web, dice, low, wide):
        rows = []
        for _ in web.ties:
            least = low + dice.below(-2 * low + 1)
            rows.append((least, least + dice.below(wide + 1)))
        return tuple(rows)

    def test_as_going_through_all_rows(self):
        dice = Dice(17)
        for web in webs_to_flow(5):
            for _ in range(6):
                bounds = self.thrown(web, dice, -2, 3)
                rows = product(*[range(low, high + 1) for low, high in bounds])
                self.assertIs(self.check_bounds(web, bounds) is None, not any(told.is_current(web, row) for row in rows))

    def test_both_kinds(self):
        dice = Dice(19)
        seen = {True: 0, False: 0}
        for web in [*middle_webs(), BIG, BIG_MIXED, CHAIN, WHEEL_AND_TWIG]:
            for low, wide in ((-2, 2), (-5, 9), (-FAR // 2, FAR // 2), (-3, 0)):
                for _ in range(3):
                    seen[self.check_bounds(web, self.thrown(web, dice, low, wide)) is None] += 1
            many = len(web.ties)
            self.assertIsNotNone(self.check_bounds(web, ((-FAR, FAR),) * many))
            self.assertEqual(self.check_bounds(web, ((0, 0),) * many), (0,) * many)
            self.check_bounds(web, ((FAR, FAR),) * many)
            self.check_bounds(web, ((1, FAR),) * many)
        self.assertGreater(min(seen.values()), 100)

    def test_each_current_is_found_between_itself(self):
        for web in (BIG, BIG_MIXED, FULL, LONE_LOOPS, TWO_PARTS):
            current = some_current(web, 100)
            far = tuple(worth * (FAR // 4) for worth in current)
            for row in (current, far):
                self.assertEqual(self.check_bounds(web, tuple((worth, worth) for worth in row)), row)
                for at_place in range(len(row)):
                    bounds = [(worth, worth) for worth in row]
                    bounds[at_place] = (row[at_place] + 1,) * 2
                    tie = web.ties[at_place]
                    self.assertIs(self.check_bounds(web, tuple(bounds)) is None, tie[0] != tie[1])

    def test_by_hand(self):
        self.assertIsNone(bounded(web=THREE, bounds=((1, 2), (0, 0), (0, 9))))
        self.assertEqual(bounded(THREE, ((1, 2), (1, 1), (-9, 9))), (1, 1, -1))
        self.assertEqual(bounded(THREE, ((FAR, FAR), (-FAR, FAR), (-FAR, FAR))), (FAR, FAR, -FAR))
        self.assertEqual(bounded(LONE_LOOPS, ((5, 5), (-FAR, -FAR), (0, 0))), (5, -FAR, 0))
        self.assertEqual(bounded(LONE, ()), ())
        self.assertIsNone(barring_herd(web=LONE, bounds=()))
        self.assertEqual(barring_herd(Web("ab", ("ab",)), ((1, 1),)), "a")
        self.assertEqual(barring_herd(web=Web("ab", ("ab",)), bounds=((-2, -1),)), "b")
        self.assertIsNone(barring_herd(NO_TIES, ()))


class Parted(Case):
    def check_fractions(self, row, many):
        self.assertIs(row.__class__, tuple)
        self.assertEqual(len(row), many)
        for part in row:
            self.assertIs(part.__class__, tuple)
            top, bottom = part
            self.assertTrue(top.__class__ is int and bottom.__class__ is int and bottom > 0 and gcd(top, bottom) == 1)
        return [Fraction(*part) for part in row]

    def check_parted(self, web, values):
        found = parted(web, values)
        self.assertIs(found.__class__, tuple)
        current, rise = found
        current, rise = (self.check_fractions(row, len(web.ties)) for row in (current, rise))
        self.assertEqual([one + other for one, other in zip(current, rise)], [Fraction(*part) for part in values])
        self.assertTrue(told.is_current(web, current))
        heights = told.heights(web, rise)
        self.assertIsNotNone(heights)
        own = heights_of(web, values)
        if any(current):
            self.assertIsNone(own)
        else:
            self.assertEqual(self.check_fractions(own, len(web.places)), heights)

    def thrown(self, web, dice):
        rows = []
        for _ in web.ties:
            part = Fraction(dice.below(2001) - 1000, 1 + dice.below(1000))
            rows.append((part.numerator, part.denominator))
        return tuple(rows)

    def thrown_rise(self, web, dice):
        told_heights = {place: dice.below(41) - 20 for place in web.places}
        bottom = 1 + dice.below(9)
        parts = [Fraction(told_heights[tie[1]] - told_heights[tie[0]], bottom) for tie in web.ties]
        return tuple((part.numerator, part.denominator) for part in parts)

    def test_webs(self):
        dice = Dice(29)
        for web in [*tiny_webs()[::3], *middle_webs(), FULL, PATH, BIG, BIG_MIXED, CHAIN, WHEEL_AND_TWIG]:
            many = len(web.ties)
            self.check_parted(web, ((0, 1),) * many)
            self.check_parted(web, ((10 ** 6, 1),) * many)
            self.check_parted(web, ((-10 ** 6, 999),) * many)
            for _ in range(3):
                self.check_parted(web, self.thrown(web, dice))
                rise = self.thrown_rise(web, dice)
                self.check_parted(web, rise)
                self.assertIsNotNone(heights_of(web, rise))
                self.assertEqual(parted(web, rise), (((0, 1),) * many, rise))

    def test_great_bottoms(self):
        bottoms = (991, 997, 983, 977, 971, 967, 953, 947, 941, 937, 1000)
        for web in (BIG, BIG_MIXED):
            self.check_parted(web, tuple((-10 ** 6 + 3 if bottom % 2 else 999999, bottom) for bottom in bottoms))

    def test_by_hand(self):
        ones = ((1, 1),) * 3
        self.assertEqual(parted(web=THREE, values=((1, 1), (1, 1), (-1, 1))), (((1, 1), (1, 1), (-1, 1)), ((0, 1),) * 3))
        self.assertEqual(parted(THREE, ones), (((1, 3), (1, 3), (-1, 3)), ((2, 3), (2, 3), (4, 3))))
        self.assertEqual(parted(LONE_LOOPS, ones), (ones, ((0, 1),) * 3))
        self.assertEqual(parted(LONE, ()), ((), ()))
        self.assertEqual(heights_of(web=THREE, values=((1, 2), (1, 3), (5, 6))), ((0, 1), (1, 2), (5, 6)))
        self.assertIsNone(heights_of(THREE, ((1, 2), (1, 3), (4, 5))))
        self.assertEqual(heights_of(NO_TIES, ()), ((0, 1),) * 4)
        self.assertIsNone(heights_of(LONE_LOOPS, ((0, 1), (0, 1), (1, 1))))
        self.assertEqual(heights_of(LONE_LOOPS, ((0, 1),) * 3), ((0, 1),))


class EvenCuts(Case):
    def check_cuts(self, web):
        lots = oracle.Lots(web)
        every = tuple(lot for lot in lots.lots if lots.is_even(lot) and lots.is_two_sided(lot))
        self.assertEqual(even_cuts(web), every)
        self.assertEqual((abs(value(web, (-1, 1), (-1, 1))[0]), 1), (len(every), 1))

    def test_webs(self):
        for web in [*tiny_webs()[::2], *middle_webs(), FULL, TIES_OF_TWO, BIG, BIG_MIXED, CHAIN, WHEEL_AND_TWIG]:
            self.check_cuts(web)

    def test_by_hand(self):
        self.assertEqual(even_cuts(web=RING_OF_TWO), ((), (0, 1)))
        self.assertEqual(even_cuts(THREE), ((),))
        self.assertEqual(even_cuts(LONE_LOOPS), ((),))
        self.assertEqual(even_cuts(LONE), ((),))
        self.assertEqual(len(even_cuts(CHAIN)), 32)
        for lot in even_cuts(CHAIN):
            self.assertTrue(is_even(CHAIN, lot) and is_two_sided(CHAIN, lot))


class Errors(Case):
    def test_of_a_web(self):
        for call in (current_counts, least_rest, even_cuts):
            self.check_errors(call, [("web", HOUSE, wrong_webs())])

    def test_of_numbers(self):
        for call in (count_currents, some_current):
            for right in (2, 100):
                self.check_errors(call, [("web", HOUSE, wrong_webs()), ("number", right, wrong_numbers(101, 2))])

    def test_of_bounds(self):
        for web, right in ((HOUSE, ((-FAR, FAR), (3, 3), (FAR, FAR), (-FAR, -FAR))), (LONE, ()),
                           (LONE_LOOPS, ((0, 0),) * 3)):
            for call in (bounded, barring_herd):
                self.check_errors(call, [("web", web, wrong_webs()), ("bounds", right, wrong_bounds(web))])
        self.raises(InvalidBounds, "index", 1, bounded, THREE, ((0, 0), (1, 0), None))
        self.raises(InvalidBounds, "index", None, bounded, THREE, ((1, 0),) * 4)

    def test_of_values(self):
        rights = ((10 ** 6, 999), (-10 ** 6, 1), (0, 1), (1, 1000))
        for web, right in ((HOUSE, rights), (LONE, ()), (LONE_LOOPS, ((0, 1),) * 3)):
            for call in (parted, heights_of):
                self.check_errors(call, [("web", web, wrong_webs()), ("values", right, wrong_values(web))])
        self.raises(InvalidValues, "index", 2, parted, THREE, ((0, 1), (1, 1), (2, 2)))

    def test_nothing_is_altered(self):
        for call in (current_counts, least_rest, even_cuts):
            self.unaltered(call, BIG_MIXED)
        self.unaltered(count_currents, FULL, 7)
        for call in (bounded, barring_herd):
            self.unaltered(call, THREE, ((1, 2), (0, 5), (-9, 9)))
        for call in (parted, heights_of):
            self.unaltered(call, THREE, ((1, 2), (1, 3), (5, 6)))


if __name__ == "__main__":
    unittest.main()
