import unittest
from itertools import product

import oracle_rows as told
from cases import Case
from samples import (
    BIG, BIG_MIXED, FULL, HOUSE, LONE, LONE_LOOPS, NO_TIES, RING_OF_TWO, THREE, TWO_PARTS, Dice, few_webs,
    thrown_webs, tiny_webs, wrong_dyes, wrong_numbers, wrong_webs,
)
from webreckon.dyes import (
    count_dyes, dye_counts, dyes, fitting_dyes, is_dye, least_dyes, leaning_of, rising_pairs,
)
from webreckon.errors import InvalidDye, InvalidNumber, Refused, TooMany
from webreckon.leanings import arrows, is_ringless
from webreckon.lots import pieces, rank
from webreckon.table import value
from webreckon.webs import Web

MOST = 10 ** 6
DYES_OF_TWO = (dyes, rising_pairs)


def webs_to_dye():
    """None has more than five places, so that all strings of figures can be listed."""
    webs = [*tiny_webs()[::3], *few_webs(), *thrown_webs(61, 15, 5, 6)]
    return [web for web in webs if len(web.places) < 6]


def at(counts, number):
    return sum(many * number ** power for power, many in enumerate(counts))


class Counts(Case):
    def check_counts(self, web, most):
        counts = dye_counts(web)
        self.assertIs(counts.__class__, tuple)
        self.assertEqual(len(counts), len(web.places) + 1)
        for number in range(1, most + 1):
            many = len(told.dyes(web, number))
            self.assertEqual(at(counts, number), many)
            self.assertEqual(count_dyes(web, number), many)
        for number in (1, 2, 7, 8, 999, MOST):
            self.assertEqual(count_dyes(web, number), at(counts, number))
        ties = tuple(range(len(web.ties)))
        sign = (-1) ** rank(web, ties)
        for number in (1, 2, 3, 10, MOST):
            worth = value(web, (1 - number, 1), (0, 1))[0]
            self.assertEqual(count_dyes(web, number), sign * number ** len(pieces(web, ties)) * worth)
        some = [number for number in range(1, 9) if at(counts, number) > 0]
        self.assertEqual(least_dyes(web), some[0] if some else None)
        self.assertIs(least_dyes(web) is None, any(tie[0] == tie[1] for tie in web.ties))

    def test_small_webs(self):
        for web in webs_to_dye():
            self.check_counts(web, 4)

    def test_big_webs(self):
        for web in (BIG, BIG_MIXED, TWO_PARTS, Web("abcdefg", BIG.ties[2:])):
            self.check_counts(web, 3)

    def test_by_hand(self):
        self.assertEqual(dye_counts(web=THREE), (0, 2, -3, 1))
        self.assertEqual(dye_counts(LONE), (0, 1))
        self.assertEqual(dye_counts(NO_TIES), (0, 0, 0, 0, 1))
        self.assertEqual(dye_counts(LONE_LOOPS), (0, 0))
        self.assertEqual(dye_counts(RING_OF_TWO), (0, -1, 1))
        self.assertEqual(count_dyes(web=THREE, number=3), 6)
        self.assertEqual(count_dyes(NO_TIES, MOST), MOST ** 4)
        self.assertEqual(count_dyes(THREE, MOST), MOST * (MOST - 1) * (MOST - 2))
        self.assertEqual(count_dyes(LONE_LOOPS, MOST), 0)
        self.assertEqual([least_dyes(web) for web in (LONE, RING_OF_TWO, THREE, FULL)], [1, 2, 3, 4])
        self.assertIsNone(least_dyes(web=LONE_LOOPS))
        full = Web("abcdefg", ("ab", "ac", "ad", "ae", "bc", "bd", "be", "cd", "ce", "de", "fg"))
        self.assertEqual(least_dyes(full), 5)


class Lists(Case):
    def check_lists(self, web, number):
        every = told.dyes(web, number)
        self.assertEqual(dyes(web, number), every)
        for figures in product("1234567"[:number], repeat=len(web.places)):
            dye = "".join(figures)
            self.assertIs(is_dye(web, number, dye), dye in every)
            if dye in every:
                leaning = leaning_of(web, number, dye)
                figure = dict(zip(web.places, dye))
                self.assertTrue(all(figure[arrow[0]] < figure[arrow[1]] for arrow in arrows(web, leaning)))
                self.assertTrue(is_ringless(web, leaning))
            else:
                self.raises(Refused, "value", dye, leaning_of, web, number, dye)
        return every

    def test_small_webs(self):
        for web in webs_to_dye():
            for number in (1, 2, 3):
                self.check_lists(web, number)

    def test_more_figures(self):
        for web in (HOUSE, RING_OF_TWO, LONE, FULL):
            for number in (4, 5, 7):
                self.check_lists(web, number)

    def test_big_webs(self):
        self.check_lists(BIG, 3)
        self.assertEqual(dyes(BIG_MIXED, 7), ())
        self.assertIs(is_dye(BIG, 7, "1234567"), True)
        self.assertIs(is_dye(BIG, 7, "1234576"), True)
        self.assertIs(is_dye(BIG, 7, "1234577"), False)
        self.assertEqual(leaning_of(BIG, 7, "7654321"), "-" * 11)

    def test_too_many(self):
        seven = Web("abcd", ())
        self.assertEqual(len(dyes(seven, 7)), 2401)
        self.assertEqual(dyes(seven, 7), told.dyes(seven, 7))
        self.raises(TooMany, "limit", 2500, dyes, Web("abcde", ()), 5)
        just_enough = Web("abcde", ("ab",))
        self.assertEqual(len(dyes(just_enough, 5)), 2500)
        self.assertEqual(dyes(just_enough, 5), told.dyes(just_enough, 5))
        self.assertEqual(len(dyes(Web("abcdefg", ()), 3)), 2187)
        self.raises(TooMany, "limit", 2500, dyes, Web("abcdefg", ("ab",)), 4)
        self.assertEqual(dyes(Web("abcdefg", ("aa",)), 7), ())
        for web in (Web("abcde", ()), Web("abcdefg", BIG.ties[:6]), BIG):
            for number in range(1, 8):
                if count_dyes(web, number) > 2500:
                    self.raises(TooMany, "limit", 2500, dyes, web, number)
                else:
                    self.assertEqual(len(dyes(web, number)), count_dyes(web, number))

    def test_just_above_the_limit(self):
        counts = {count_dyes(web, number): (web, number) for web in thrown_webs(67, 300, 7, 8) for number in range(1, 8)}
        above = min(many for many in counts if many > 2500)
        self.assertLess(above, 2600)
        self.raises(TooMany, "limit", 2500, dyes, *counts[above])

    def test_by_hand(self):
        self.assertEqual(dyes(web=RING_OF_TWO, number=3), ("12", "13", "21", "23", "31", "32"))
        self.assertEqual(dyes(LONE, 7), tuple("1234567"))
        self.assertEqual(dyes(LONE_LOOPS, 5), ())
        self.assertEqual(dyes(RING_OF_TWO, 1), ())
        self.assertIs(is_dye(web=THREE, number=3, dye="132"), True)
        self.assertIs(is_dye(LONE_LOOPS, 3, "1"), False)
        self.assertEqual(leaning_of(web=HOUSE, number=3, dye="213"), "--++")
        self.assertEqual(leaning_of(NO_TIES, 2, "1111"), "")


class Told(Case):
    def check_told(self, web, number, dye):
        every = told.dyes(web, number)
        self.assertEqual(fitting_dyes(web, number, dye), sum(1 for one in every if told.agrees(one, dye)))

    def test_small_webs(self):
        dice = Dice(5)
        for web in webs_to_dye()[::2]:
            for number in (1, 2, 4):
                marks = "1234567"[:number] + "?"
                self.check_told(web, number, "?" * len(web.places))
                for _ in range(4):
                    self.check_told(web, number, "".join(marks[dice.below(len(marks))] for _ in web.places))

    def test_each_told_dye(self):
        for web in (HOUSE, RING_OF_TWO, LONE, LONE_LOOPS):
            for dye in product("123?", repeat=len(web.places)):
                self.check_told(web, 3, "".join(dye))

    def test_big_webs(self):
        for dye in ("???????", "1??????", "12?3???", "1231231", "??1?2?3", "1212121", "2??2???"):
            self.check_told(BIG, 3, dye)
        self.assertEqual(fitting_dyes(BIG, 7, "???????"), count_dyes(BIG, 7))
        self.assertEqual(fitting_dyes(BIG, 7, "3??????") * 7, count_dyes(BIG, 7))
        self.assertEqual(fitting_dyes(BIG_MIXED, 7, "???????"), 0)
        self.assertEqual(fitting_dyes(Web("abcdefg", ()), 7, "???????"), 7 ** 7)

    def test_by_hand(self):
        self.assertEqual(fitting_dyes(web=THREE, number=4, dye="1??"), 6)
        self.assertEqual(fitting_dyes(THREE, 4, "11?"), 0)
        self.assertEqual(fitting_dyes(THREE, 4, "123"), 1)
        self.assertEqual(fitting_dyes(LONE, 7, "?"), 7)
        self.assertEqual(fitting_dyes(LONE, 7, "7"), 1)


class Rising(Case):
    def test_small_webs(self):
        webs = [web for web in webs_to_dye() if len(web.places) < 5]
        for web in webs[::2]:
            for number in (1, 2, 3):
                self.assertEqual(rising_pairs(web, number), told.rising_pairs(web, number))

    def test_big_webs(self):
        self.assertEqual(rising_pairs(BIG, 2), told.rising_pairs(BIG, 2))
        for number in range(1, 8):
            self.assertEqual(rising_pairs(BIG, number), -at(dye_counts(BIG), -number))
            self.assertEqual(rising_pairs(BIG_MIXED, number), 0)

    def test_by_hand(self):
        self.assertEqual(rising_pairs(web=THREE, number=1), 6)
        self.assertEqual(rising_pairs(RING_OF_TWO, 2), 6)
        self.assertEqual(rising_pairs(LONE, 7), 7)
        self.assertEqual(rising_pairs(NO_TIES, 7), 7 ** 4)


class Errors(Case):
    def test_of_a_web(self):
        for call in (dye_counts, least_dyes):
            self.check_errors(call, [("web", HOUSE, wrong_webs())])

    def test_of_numbers(self):
        self.check_errors(count_dyes, [("web", HOUSE, wrong_webs()), ("number", MOST, wrong_numbers(MOST + 1, 1))])
        for call in DYES_OF_TWO:
            for right in (1, 7):
                self.check_errors(call, [("web", HOUSE, wrong_webs()), ("number", right, wrong_numbers(8, 1))])
        self.raises(InvalidNumber, "value", 8, dyes, Web("abcdefg", ()), 8)

    def test_of_dyes(self):
        for web, number, right in ((HOUSE, 3, "123"), (HOUSE, 7, "716"), (LONE, 1, "1"), (NO_TIES, 2, "1122")):
            start = [("web", web, wrong_webs()), ("number", number, wrong_numbers(8, 1))]
            for call in (is_dye, leaning_of):
                self.check_errors(call, [*start, ("dye", right, wrong_dyes(web, number))])
            self.check_errors(fitting_dyes, [*start, ("dye", right, wrong_dyes(web, number, "?"))])

    def test_refused_comes_last(self):
        self.raises(Refused, "value", "112", leaning_of, HOUSE, 3, "112")
        self.raises(InvalidDye, "value", "114", leaning_of, HOUSE, 3, "114")
        self.raises(Refused, "value", "1", leaning_of, LONE_LOOPS, 7, "1")
        self.raises(InvalidDye, "value", "?12", leaning_of, HOUSE, 3, "?12")

    def test_nothing_is_altered(self):
        self.unaltered(dye_counts, BIG)
        self.unaltered(dyes, HOUSE, 3)
        for call in (is_dye, fitting_dyes, leaning_of):
            self.unaltered(call, HOUSE, 3, "123")


if __name__ == "__main__":
    unittest.main()
