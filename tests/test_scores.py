import unittest
from itertools import product

import oracle
import oracle_rows as told
from cases import Case
from samples import (
    BIG, BIG_MIXED, FULL, HOUSE, LONE, LONE_LOOPS, NO_TIES, RING_OF_TWO, THREE, Dice, few_webs, thrown_webs,
    tiny_webs, wrong_leanings, wrong_rows, wrong_webs,
)
from webreckon.leanings import count_sorts, is_ringless, turned
from webreckon.scores import (
    all_rows, barring, count_leanings, count_rows, distance_to_row, is_row, leaning_for, nearest_row, row_of,
    turning_rings,
)
from webreckon.table import value
from webreckon.webs import Web

MOST = 10 ** 6


def webs_to_score():
    return [*tiny_webs()[::3], *few_webs(), *thrown_webs(51, 12, 6, 6)]


def rows_by_leaning(web):
    found = {}
    for leaning in told.leanings(web):
        found.setdefault(told.score(web, leaning), []).append(leaning)
    return found


def some_rows(web, seed):
    """Rows that are one and that are none, with the right sum and with others, small and great numbers."""
    dice = Dice(seed)
    many, ties = len(web.places), len(web.ties)
    rows = [(0,) * many, (ties,) + (0,) * (many - 1), (0,) * (many - 1) + (ties,), (1,) * many, (MOST,) * many]
    rows += [(MOST,) + (0,) * (many - 1), tuple(range(many))]
    for _ in range(6):
        row = [0] * many
        for _ in range(ties):
            row[dice.below(many)] += 1
        rows.append(tuple(row))
        row[dice.below(many)] += 1
        rows.append(tuple(row))
    return rows


class Rows(Case):
    def check_row(self, web, found, row):
        """Whether it is one, or what bars it, and how near the nearest one is."""
        is_one = row in found
        self.assertIs(is_row(web, row), is_one)
        self.assertEqual(count_leanings(web, row), len(found.get(row, [])))
        leaning, herd = leaning_for(web, row), barring(web, row)
        if is_one:
            self.assertIn(leaning, found[row])
            self.assertIsNone(herd)
        else:
            self.assertIsNone(leaning)
            self.assertIn(herd, oracle.all_herds(web.places))
            self.assertTrue(told.bars_row(web, row, herd))
            self.assertIs(herd == "", sum(row) != len(web.ties))
        near = sorted((told.distance(row, other), other) for other in found)[0]
        self.assertEqual((distance_to_row(web, row), nearest_row(web, row)), near)

    def check_web(self, web, step=1):
        found = rows_by_leaning(web)
        for leaning in told.leanings(web)[::step]:
            self.assertEqual(row_of(web, leaning), told.score(web, leaning))
        self.assertEqual(all_rows(web), tuple(sorted(found)))
        self.assertEqual(count_rows(web), len(found))
        self.assertEqual((count_rows(web), 1), value(web, (2, 1), (1, 1)))
        self.assertEqual(count_rows(web), count_sorts(web, "rings"))
        return found

    def test_small_webs(self):
        for at, web in enumerate(webs_to_score()):
            found = self.check_web(web)
            for row in [*list(found)[::3], *some_rows(web, at)]:
                self.check_row(web, found, row)

    def test_all_rows_of_some_numbers(self):
        for web in [*tiny_webs()[::9], HOUSE, RING_OF_TWO, THREE]:
            found = rows_by_leaning(web)
            for row in product(range(4), repeat=len(web.places)):
                self.check_row(web, found, row)

    def test_big_webs(self):
        for web in (BIG, BIG_MIXED):
            found = self.check_web(web, 50)
            for row in [*list(found)[::300], *some_rows(web, 3)[:10]]:
                self.check_row(web, found, row)

    def test_by_hand(self):
        self.assertEqual(row_of(web=HOUSE, leaning="+-+-"), (1, 1 + 1, 1))
        self.assertEqual(row_of(LONE_LOOPS, "+-+"), (3,))
        self.assertEqual(row_of(LONE, ""), (0,))
        self.assertEqual(row_of(NO_TIES, ""), (0, 0, 0, 0))
        self.assertEqual(all_rows(web=RING_OF_TWO), ((0, 2), (1, 1), (2, 0)))
        self.assertEqual(count_rows(web=RING_OF_TWO), 3)
        self.assertEqual(all_rows(LONE_LOOPS), ((3,),))
        self.assertEqual(all_rows(NO_TIES), ((0, 0, 0, 0),))
        self.assertEqual(count_leanings(web=RING_OF_TWO, row=(1, 1)), 2)
        self.assertEqual(count_leanings(LONE_LOOPS, (3,)), 8)
        self.assertEqual(count_leanings(LONE_LOOPS, (2,)), 0)
        self.assertEqual(leaning_for(web=RING_OF_TWO, row=(2, 0)), "++")
        self.assertEqual(leaning_for(NO_TIES, (0, 0, 0, 0)), "")
        self.assertIs(is_row(web=THREE, row=(1, 1, 1)), True)
        self.assertEqual(barring(web=THREE, row=(3, 0, 0)), "bc")
        self.assertEqual(barring(THREE, (3, 0, 1)), "")
        self.assertEqual(barring(THREE, (MOST, MOST, MOST)), "")
        self.assertEqual(barring(THREE, (0, 0, 0)), "")
        self.assertEqual(barring(NO_TIES, (0, 1, 0, 0)), "")
        self.assertIsNone(barring(NO_TIES, (0, 0, 0, 0)))
        self.assertEqual(barring(Web("ab", ("aa",)), (0, 1)), "a")
        self.assertEqual(distance_to_row(web=THREE, row=(3, 0, 0)), 2)
        self.assertEqual(nearest_row(web=THREE, row=(3, 0, 0)), (2, 0, 1))
        self.assertEqual(distance_to_row(RING_OF_TWO, (MOST, MOST)), 2 * MOST - 2)
        self.assertEqual(nearest_row(RING_OF_TWO, (MOST, MOST)), (0, 2))
        self.assertEqual(distance_to_row(LONE, (7,)), 7)


class Turning(Case):
    def check_pair(self, rings, leaning, other):
        web = rings.web
        found = turning_rings(web, leaning, other)
        if told.score(web, leaning) != told.score(web, other):
            self.assertIsNone(found)
            return
        self.assertIs(found.__class__, tuple)
        for ring in found:
            self.assertIn(ring, rings.rings_of_arrows(leaning))
        used = [index for ring in found for index in ring]
        self.assertEqual(len(used), len(set(used)))
        for ring in found:
            leaning = turned(web, leaning, ring)
        self.assertEqual(leaning, other)

    def test_small_webs(self):
        for web in [*tiny_webs()[::4], *few_webs()]:
            rings = oracle.Leanings(web)
            step = 1 if len(web) < 5 else 5
            for leaning in rings.all[::step]:
                for other in rings.all[::step]:
                    self.check_pair(rings, leaning, other)

    def test_all_of_one_row(self):
        for web in (FULL, BIG, BIG_MIXED):
            rings = oracle.Leanings(web)
            for row, leanings in list(rows_by_leaning(web).items())[::40]:
                for other in leanings[::3]:
                    self.check_pair(rings, leanings[0], other)
            for leaning in rings.all[::170]:
                for other in rings.all[::170]:
                    self.check_pair(rings, leaning, other)

    def test_by_hand(self):
        self.assertEqual(turning_rings(web=HOUSE, leaning="++++", other_leaning="++++"), ())
        self.assertEqual(turning_rings(HOUSE, "+++-", "-+-+"), ((0, 2, 3),))
        self.assertIsNone(turning_rings(HOUSE, "++++", "-+++"))
        self.assertEqual(sorted(turning_rings(LONE_LOOPS, "+-+", "---")), [(0,), (2,)])
        self.assertEqual(turning_rings(LONE, "", ""), ())

    def test_ringless_leanings_have_rows_of_their_own(self):
        for leaning in told.leanings(FULL):
            if is_ringless(FULL, leaning):
                self.assertEqual(count_leanings(FULL, row_of(FULL, leaning)), 1)


class Errors(Case):
    def test_of_a_web(self):
        for call in (all_rows, count_rows):
            self.check_errors(call, [("web", HOUSE, wrong_webs())])

    def test_of_a_row(self):
        for web, right in ((HOUSE, (0, 1, MOST)), (LONE, (0,)), (NO_TIES, (MOST, 0, 0, 0))):
            for call in (is_row, leaning_for, barring, count_leanings, distance_to_row, nearest_row):
                self.check_errors(call, [("web", web, wrong_webs()), ("row", right, wrong_rows(web))])

    def test_of_leanings(self):
        for web, right in ((HOUSE, "+--+"), (LONE, "")):
            start = [("web", web, wrong_webs()), ("leaning", right, wrong_leanings(web))]
            self.check_errors(row_of, start)
            self.check_errors(turning_rings, [*start, ("other_leaning", right, wrong_leanings(web))])

    def test_nothing_is_altered(self):
        self.unaltered(all_rows, BIG_MIXED)
        for call in (is_row, leaning_for, barring, count_leanings, distance_to_row, nearest_row):
            self.unaltered(call, HOUSE, (1, 2, 1))
        self.unaltered(turning_rings, HOUSE, "+++-", "-+-+")


if __name__ == "__main__":
    unittest.main()
