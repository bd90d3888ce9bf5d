import unittest
from itertools import product

import oracle_heaps as told
from cases import Case
from samples import (
    APART, APART_AND_LOOPED, BIG, CHAIN, DOUBLED, FULL, HOUSE, LONE, LOOPED, PATH, RING_OF_TWO, STAR, THREE,
    TIES_OF_TWO, WHEEL_AND_TWIG, Dice, heap_webs, tiny_heap_webs, wrong_heaps,
)
from webreckon.errors import Apart, InvalidHeap, Looped, TooMany
from webreckon.heaps import are_alike, least_heap
from webreckon.leanings import are_of_sort, is_ringless
from webreckon.lots import spare
from webreckon.ranks import free_heap, is_free, mate, rank, taking
from webreckon.scores import row_of

MOST = 10 ** 6
GREAT_WEBS = (BIG, CHAIN, WHEEL_AND_TWIG)
CALLS = (is_free, free_heap, rank, mate, taking)


def webs_with_ranks():
    return [web for web in [*tiny_heap_webs()[::4], *heap_webs()] if len(web.places) < 5]


def heap_with_sum(web, dice, total, wide):
    rest = [dice.below(2 * wide + 1) - wide for _ in web.places[1:]]
    return (total - sum(rest), *rest)


def spare_of(web):
    return spare(web, tuple(range(len(web.ties))))


class Ranks(Case):
    def check_free(self, frees, heap):
        web = frees.web
        is_one = frees.is_free(heap)
        self.assertIs(is_free(web, heap), is_one)
        self.check_free_heap(web, heap, is_one)
        self.assertIs(is_one, frees.least(heap)[0] >= 0)
        return is_one

    def check_free_heap(self, web, heap, is_one):
        found = free_heap(web, heap)
        if not is_one:
            self.assertIsNone(found)
            return
        self.assertIs(found.__class__, tuple)
        self.assertGreaterEqual(min(found), 0)
        self.assertTrue(are_alike(web, heap, found))

    def check_taking(self, web, heap, free):
        """free: whether a heap with a lesser sum is free."""
        row = taking(web, heap)
        self.assertIs(row.__class__, tuple)
        self.assertEqual(len(row), len(web.places))
        self.assertGreaterEqual(min(row), 0)
        self.assertEqual(sum(row), rank(web, heap) + 1)
        self.assertFalse(free(tuple(one - other for one, other in zip(heap, row))))

    def check_mate(self, web, heap):
        found = mate(web, heap)
        ties = [len(told.ties_at(web, place)) for place in web.places]
        self.assertEqual(found, tuple(many - 2 - own for many, own in zip(ties, heap)))
        if abs(sum(found)) <= 8 and max(map(abs, found)) <= MOST:
            self.assertEqual(rank(web, heap) - rank(web, found), sum(heap) - spare_of(web) + 1)

    def test_small_webs(self):
        dice = Dice(3)
        for web in webs_with_ranks():
            frees = told.Frees(web)
            for total in (-8, -1, 0, 1, 2, 3, 5, 8):
                heap = heap_with_sum(web, dice, total, 3)
                self.check_free(frees, heap)
                self.assertEqual(rank(web, heap), frees.rank(heap))
                self.check_taking(web, heap, frees.is_free)
                self.check_mate(web, heap)

    def test_all_small_heaps(self):
        for web in (THREE, RING_OF_TWO, TIES_OF_TWO, HOUSE):
            frees = told.Frees(web)
            for heap in product(range(-2, 3), repeat=len(web.places)):
                self.check_free(frees, heap)
                self.assertEqual(rank(web, heap), frees.rank(heap))
                self.check_taking(web, heap, frees.is_free)
                self.check_mate(web, heap)

    def test_more_places(self):
        dice = Dice(5)
        for web in [web for web in heap_webs() if len(web.places) == 5][:6]:
            frees = told.Frees(web)
            for total in (0, 1, 2, 4):
                heap = heap_with_sum(web, dice, total, 2)
                self.assertEqual(rank(web, heap), frees.rank(heap))
                self.check_free(frees, heap)

    def test_big_webs(self):
        dice = Dice(7)
        for web in GREAT_WEBS:
            def free(heap, web=web):
                return least_heap(web, heap, web.places[3])[3] >= 0
            for total in range(-8, 9):
                for wide in (2, 60000):
                    heap = heap_with_sum(web, dice, total, wide)
                    self.assertIs(is_free(web, heap), free(heap))
                    self.check_free_heap(web, heap, free(heap))
                    self.check_taking(web, heap, free)
                    self.check_mate(web, heap)
                    self.check_stays_free(web, heap, free)

    def check_stays_free(self, web, heap, free):
        """No way of taking as much as the rank, or a few of the many ways, leaves it in debt."""
        many = rank(web, heap)
        rows = told.heaps_with_sum(len(web.places), many) if many >= 0 else []
        for row in rows[::max(1, len(rows) // 40)]:
            self.assertTrue(free(tuple(one - other for one, other in zip(heap, row))))

    def test_great_numbers_with_a_small_sum(self):
        for web in (BIG, THREE, FULL, DOUBLED):
            many = len(web.places) - 2
            for heap in ((MOST, *(0,) * many, -MOST), (-MOST, *(0,) * many, MOST), (MOST, *(0,) * many, 8 - MOST),
                         (-MOST, *(0,) * many, MOST - 8)):
                least = least_heap(web, heap, web.places[-1])
                self.assertIs(is_free(web, heap), least[-1] >= 0)
                self.assertEqual(rank(web, heap), rank(web, least))
                self.check_free_heap(web, heap, least[-1] >= 0)
                self.assertEqual(sum(taking(web, heap)), rank(web, heap) + 1)

    def test_sums_at_their_bounds(self):
        for web in (HOUSE, BIG, LONE):
            many = len(web.places) - 1
            for total in (8, -8):
                for call in CALLS:
                    call(web, (total,) + (0,) * many)
            for total in (9, -9, 10, MOST, -MOST):
                for call in CALLS:
                    self.raises(TooMany, "limit", 8, call, web, (total,) + (0,) * many)
        for call in CALLS:
            self.raises(TooMany, "limit", 8, call, HOUSE, (MOST, MOST, MOST))
            self.raises(TooMany, "limit", 8, call, HOUSE, (MOST, -MOST, 9))
            self.raises(TooMany, "limit", 8, call, HOUSE, (-MOST, MOST, -9))

    def test_heaps_of_leanings(self):
        """The arrows that leave, less 1: in debt if ringless, alike exactly if of one sort by both."""
        for web in (THREE, HOUSE, FULL, RING_OF_TWO):
            leanings = ["".join(signs) for signs in product("+-", repeat=len(web.ties))][::3]
            heaps = {leaning: tuple(number - 1 for number in row_of(web, leaning)) for leaning in leanings}
            for leaning, heap in heaps.items():
                if is_ringless(web, leaning):
                    self.assertEqual(rank(web, heap), -1)
                for other in leanings:
                    same = are_of_sort(web, leaning, other, "both")
                    self.assertIs(are_alike(web, heap, heaps[other]), same)

    def test_by_hand(self):
        self.assertIs(is_free(web=THREE, heap=(-1, 1, 0)), False)
        self.assertIs(is_free(THREE, (2, -1, 0)), True)
        self.assertIs(is_free(THREE, (0, 0, -1)), False)
        self.assertEqual(free_heap(web=THREE, heap=(2, -1, 0)), (0, 0, 1))
        self.assertIsNone(free_heap(THREE, (-1, 1, 0)))
        self.assertEqual(rank(web=THREE, heap=(0, 0, 0)), 0)
        self.assertEqual(rank(THREE, (-1, 1, 0)), -1)
        self.assertEqual([rank(THREE, (total, 0, 0)) for total in range(-1, 9)], [-1, 0, 0, 1, 2, 3, 4, 5, 6, 7])
        self.assertEqual([rank(PATH, (total, 0, 0, 0)) for total in range(-1, 9)], list(range(-1, 9)))
        self.assertEqual(mate(web=THREE, heap=(1, 0, 0)), (-1, 0, 0))
        self.assertEqual(mate(STAR, (0, 0, 0, 0, 0)), (-1, -1, 2, 0, 0))
        self.assertEqual(mate(LONE, (5,)), (-7,))
        self.assertEqual(mate(RING_OF_TWO, (MOST, -MOST)), (-MOST, MOST))
        self.assertEqual(taking(web=THREE, heap=(-1, 1, 0)), (0, 0, 0))
        self.assertEqual(sum(taking(THREE, (0, 0, 0))), 1)
        self.assertEqual(rank(LONE, (7,)), 7)
        self.assertEqual(rank(LONE, (-1,)), -1)
        self.assertEqual(taking(LONE, (7,)), (8,))
        self.assertEqual(free_heap(LONE, (0,)), (0,))


class Errors(Case):
    def test_each_parameter(self):
        for call in CALLS:
            for web in (HOUSE, LONE):
                self.check_heap_errors(call, web, lambda web: [
                    ("heap", (2,) + (0,) * (len(web.places) - 1), wrong_heaps(web)),
                ])

    def test_too_many_comes_last(self):
        for call in CALLS:
            for web, error in ((APART, Apart), (LOOPED, Looped), (APART_AND_LOOPED, Apart)):
                self.raises(error, None, None, call, web, (9, 0, 0))
            self.raises(InvalidHeap, "index", 2, call, HOUSE, (9, 0, MOST + 1))
            self.raises(InvalidHeap, "index", None, call, HOUSE, (9, 0))

    def test_nothing_is_altered(self):
        for call in CALLS:
            self.unaltered(call, FULL, (3, -1, 0, 1))


if __name__ == "__main__":
    unittest.main()
