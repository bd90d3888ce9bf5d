import unittest
from itertools import product

import oracle
import oracle_heaps as told
from cases import Case
from samples import (
    APART, APART_AND_LOOPED, BIG, CHAIN, DOUBLED, FULL, HOUSE, LONE, LOOPED, RING_OF_TWO, STAR, THREE, TIES_OF_TWO,
    WHEEL_AND_TWIG, Dice, heap_webs, tiny_heap_webs, wrong_gives, wrong_heaps, wrong_places, wrong_trees,
)
from webreckon.errors import Apart, InvalidHeap, InvalidRow, Looped, NotATree, Refused, TooMany, UnknownPlace
from webreckon.heaps import (
    are_alike, behind, burning, gives_between, heap_of_tree, is_least, least_heap,
)
from webreckon.table import late
from webreckon.trees import all_trees, count_trees
from webreckon.webs import Web

MOST = 10 ** 6
GREAT_WEBS = (BIG, CHAIN, WHEEL_AND_TWIG)


def webs_with_heaps():
    return [*tiny_heap_webs()[::3], *heap_webs()]


def thrown_heap(web, dice, low, high):
    return tuple(low + dice.below(high - low + 1) for _ in web.places)


def great_heaps(web, dice):
    """Heaps with the greatest numbers that may stand there, at some places and at all places."""
    many = len(web.places)
    rows = [(MOST,) * many, (-MOST,) * many, (MOST,) + (0,) * (many - 1), (0,) * (many - 1) + (-MOST,)]
    rows.append(tuple((MOST, -MOST, 0, 1)[dice.below(4)] for _ in range(many)))
    for number in (MOST, -MOST):
        rows += [tuple(number if k == at else 1 for k in range(many)) for at in range(1, many - 1)]
    return rows + [thrown_heap(web, dice, -MOST, MOST)]


class Gives(Case):
    def test_behind(self):
        dice = Dice(3)
        for web in [*webs_with_heaps(), *GREAT_WEBS]:
            for _ in range(4):
                heap, gives = thrown_heap(web, dice, -9, 9), thrown_heap(web, dice, -5, 5)
                self.assertEqual(behind(web, heap, gives), told.behind(web, heap, gives))
            self.assertEqual(behind(web, heap, (7,) * len(heap)), heap)

    def test_too_many(self):
        self.assertEqual(behind(RING_OF_TWO, (0, 0), (MOST // 2, 0)), (-MOST, MOST))
        self.raises(TooMany, "limit", MOST, behind, RING_OF_TWO, (0, 1), (MOST // 2, 0))
        self.raises(TooMany, "limit", MOST, behind, RING_OF_TWO, (-1, 0), (MOST // 2, 0))
        self.assertEqual(behind(RING_OF_TWO, (MOST, -MOST), (MOST, 0)), (-MOST, MOST))
        self.assertEqual(behind(RING_OF_TWO, (MOST, -MOST), (0, -MOST)), (-MOST, MOST))
        self.raises(TooMany, "limit", MOST, behind, RING_OF_TWO, (MOST, -MOST), (-1, 0))
        self.raises(TooMany, "limit", MOST, behind, BIG, (0,) * 7, (MOST, -MOST, 0, 0, 0, 0, 0))
        for web in GREAT_WEBS:
            many = len(web.places)
            self.assertEqual(behind(web, (MOST,) * many, (MOST,) * many), (MOST,) * many)
            self.assertEqual(behind(web, (-MOST,) * many, (-MOST,) * many), (-MOST,) * many)

    def check_alike(self, web, heap, other):
        gives = gives_between(web, heap, other)
        self.assertIs(are_alike(web, heap, other), gives is not None)
        if gives is None:
            least = told.least(web, heap, web.places[0])
            self.assertNotEqual(least, told.least(web, other, web.places[0]))
        else:
            self.assertIs(gives.__class__, tuple)
            self.assertEqual(gives[0], 0)
            self.assertEqual(told.behind(web, heap, gives), other)
        return gives

    def test_alike_heaps(self):
        dice = Dice(7)
        for web in webs_with_heaps():
            for _ in range(4):
                heap, gives = thrown_heap(web, dice, -4, 6), (0, *thrown_heap(web, dice, -4, 4)[1:])
                self.assertEqual(self.check_alike(web, heap, told.behind(web, heap, gives)), gives)
                other = thrown_heap(web, dice, -4, 6)
                self.check_alike(web, heap, other)
                evened = (other[0] + sum(heap) - sum(other), *other[1:])
                self.check_alike(web, heap, evened)

    def test_as_many_sorts_as_trees(self):
        for web in (LONE, THREE, HOUSE, DOUBLED, FULL):
            for total in (0, -3, 5):
                rows = [(total - sum(rest), *rest) for rest in product(range(4), repeat=len(web.places) - 1)]
                sorts = []
                for heap in rows:
                    if not any(are_alike(web, heap, other) for other in sorts):
                        sorts.append(heap)
                self.assertEqual(len(sorts), count_trees(web))

    def test_great_heaps(self):
        dice = Dice(13)
        for web in GREAT_WEBS:
            heaps = great_heaps(web, dice)
            for heap in heaps:
                far = (0, *[dice.below(200001) - 100000 for _ in web.places[1:]])
                start = tuple(number // 20 for number in heap)
                self.assertEqual(gives_between(web, start, behind(web, start, far)), far)
                for other in heaps:
                    gives = gives_between(web, heap, other)
                    self.assertIs(are_alike(web, heap, other), gives is not None)
                    self.assertIs(gives is not None, least_heap(web, heap, "b") == least_heap(web, other, "b"))
                    if gives is not None:
                        self.assertEqual(told.behind(web, heap, gives), other)

    def test_by_hand(self):
        self.assertEqual(behind(web=THREE, heap=(0, 3, 0), gives=(0, 1, 0)), (1, 1, 1))
        self.assertEqual(behind(THREE, (0, 0, 0), (0, 0, -2)), (-2, -2, 4))
        self.assertEqual(behind(LONE, (-5,), (77,)), (-5,))
        self.assertEqual(gives_between(web=THREE, heap=(0, 3, 0), other_heap=(3, 0, 0)), (0, 2, 1))
        self.assertIsNone(gives_between(THREE, (0, 1, 0), (1, 0, 0)))
        self.assertIsNone(gives_between(THREE, (0, 3, 0), (3, 0, 1)))
        self.assertIs(are_alike(web=THREE, heap=(0, 1, 0), other_heap=(1, 0, 0)), False)
        self.assertIs(are_alike(TIES_OF_TWO, (5, 0), (0, 5)), True)
        self.assertEqual(gives_between(LONE, (4,), (4,)), (0,))
        self.assertIsNone(gives_between(LONE, (4,), (3,)))


class Least(Case):
    def check_least(self, web, heap, bank):
        found = least_heap(web, heap, bank)
        self.assertEqual(found, told.least(web, heap, bank))
        self.assertTrue(told.is_least(web, found, bank))
        self.assertIs(is_least(web, found, bank), True)
        self.assertIs(is_least(web, heap, bank), told.is_least(web, heap, bank))
        self.assertIs(is_least(web, heap, bank), heap == found)

    def test_small_webs(self):
        dice = Dice(31)
        for web in webs_with_heaps():
            for bank in web.places:
                self.check_least(web, (0,) * len(web.places), bank)
                for low, high in ((0, 2), (-3, 3), (0, 9)):
                    self.check_least(web, thrown_heap(web, dice, low, high), bank)

    def test_all_small_heaps(self):
        for web in (HOUSE, THREE, RING_OF_TWO, TIES_OF_TWO):
            for heap in product(range(-1, 5), repeat=len(web.places)):
                for bank in web.places:
                    self.check_least(web, heap, bank)

    def test_big_webs(self):
        dice = Dice(37)
        for web in GREAT_WEBS:
            for bank in web.places:
                self.check_least(web, thrown_heap(web, dice, -2, 3), bank)
                for heap in great_heaps(web, dice):
                    found = least_heap(web, heap, bank)
                    self.assertTrue(told.is_least(web, found, bank))
                    self.assertIs(is_least(web, told.without_bank(web, found, bank), bank), True)
                    self.assertIs(is_least(web, heap, bank), told.is_least(web, heap, bank))
                    self.assertEqual(sum(found), sum(heap))
                    self.check_alike_by_trees(web, heap, found)

    def check_alike_by_trees(self, web, heap, found):
        """So many times the difference as there are trees is spent by integer gives, and their common divisor tells."""
        difference = tuple(one - other for one, other in zip(heap, found))
        small = tuple(number % count_trees(web) for number in difference[1:])
        evened = (-sum(small), *small)
        gives = gives_between(web, evened, (0,) * len(heap))
        self.assertEqual(told.behind(web, evened, gives), (0,) * len(heap))

    def test_by_hand(self):
        self.assertEqual(least_heap(web=THREE, heap=(0, 3, 0), bank="a"), (3, 0, 0))
        self.assertEqual(least_heap(THREE, (0, 0, 0), "b"), (0, 0, 0))
        self.assertEqual(least_heap(LONE, (-7,), "h"), (-7,))
        self.assertEqual(least_heap(THREE, (MOST, MOST, MOST), "a"), (3 * MOST, 0, 0))
        self.assertEqual(least_heap(TIES_OF_TWO, (0, -1), "b"), (-5, 4))
        self.assertIs(is_least(web=LONE, heap=(-7,), bank="h"), True)
        self.assertIs(is_least(THREE, (-7, 1, 0), "a"), True)
        self.assertIs(is_least(THREE, (0, 1, 1), "a"), False)
        self.assertIs(is_least(THREE, (0, -1, 0), "a"), False)
        self.assertIs(is_least(THREE, (0, MOST, -MOST), "a"), False)


class Burning(Case):
    def check_burning(self, web, heap, bank):
        found = burning(web, heap, bank)
        self.assertEqual(found, told.burning(web, heap, bank))
        self.assertIs(found.__class__, tuple)
        self.assertIs(found[1].__class__, tuple)
        self.assertIs(len(found[0]) == len(web.places), told.is_least(web, heap, bank))

    def test_small_webs(self):
        dice = Dice(41)
        for web in webs_with_heaps():
            for bank in web.places:
                for high in (0, 1, 2, 3):
                    self.check_burning(web, thrown_heap(web, dice, 0, high), bank)

    def test_any_number_at_the_bank(self):
        for web in (HOUSE, FULL, BIG):
            for at, bank in enumerate(web.places):
                for heap in ((0,) * len(web.places), (1,) * len(web.places)):
                    for number in (-MOST, -1, MOST):
                        changed = heap[:at] + (number,) + heap[at + 1:]
                        self.assertEqual(burning(web, changed, bank), burning(web, heap, bank))
                        self.check_burning(web, changed, bank)

    def test_big_webs(self):
        dice = Dice(43)
        for web in GREAT_WEBS:
            for bank in web.places:
                for high in (0, 1, 2, 4, MOST):
                    self.check_burning(web, thrown_heap(web, dice, 0, high), bank)

    def check_trees(self, web, bank):
        lots = oracle.Lots(web)
        heaps = {}
        for tree in lots.trees():
            heap = heap_of_tree(web, tree, bank)
            heaps[heap] = tree
            self.assertEqual(heap[web.places.index(bank)], 0)
            order, fuses = told.burning(web, heap, bank)
            self.assertEqual(tuple(sorted(fuses)), tree)
            self.assertEqual(sorted(order), list(web.places))
            self.assertEqual(sum(heap), lots.full_spare - len(late(web, tree)))
        self.assertEqual(len(heaps), count_trees(web))
        return heaps

    def test_heaps_of_trees(self):
        for web in webs_with_heaps():
            for bank in web.places:
                heaps = self.check_trees(web, bank)
                if len(web.places) < 5:
                    self.check_all_least(web, bank, heaps)
        for web in GREAT_WEBS:
            self.check_trees(web, web.places[0])
            self.check_trees(web, web.places[4])

    def check_all_least(self, web, bank, heaps):
        """Each heap that is least, with 0 at the bank, is that of a tree."""
        rows = [range(1) if place == bank else range(len(told.ties_at(web, place))) for place in web.places]
        self.assertEqual({heap for heap in product(*rows) if told.is_least(web, heap, bank)}, set(heaps))

    def test_by_hand(self):
        self.assertEqual(burning(web=THREE, heap=(0, 0, 0), bank="a"), ("acb", (2, 1)))
        self.assertEqual(burning(THREE, (0, 0, 1), "a"), ("abc", (0, 1)))
        self.assertEqual(burning(THREE, (0, 1, 1), "a"), ("a", ()))
        self.assertEqual(burning(LONE, (-3,), "h"), ("h", ()))
        self.assertEqual(heap_of_tree(web=THREE, tree=(0, 2), bank="a"), (0, 1, 0))
        self.assertEqual(heap_of_tree(THREE, (0, 1), "a"), (0, 0, 1))
        self.assertEqual(heap_of_tree(LONE, (), "h"), (0,))
        self.assertEqual(heap_of_tree(STAR, (0, 1, 2, 3), "c"), (0, 0, 0, 0, 1))


class Errors(Case):
    def heap(self, web):
        return ("heap", (3,) * len(web.places), wrong_heaps(web))

    def other_heap(self, web):
        return ("other_heap", (3,) * len(web.places), wrong_heaps(web))

    def bank(self, web):
        return ("bank", web.places[-1], wrong_places(web))

    def tree(self, web):
        trees = all_trees(web)
        no_trees = [lot for lot in oracle.all_lots(web) if lot not in trees]
        return ("tree", trees[0], wrong_trees(web, no_trees))

    def gives(self, web):
        return ("gives", (3,) * len(web.places), wrong_gives(web))

    def test_each_parameter(self):
        for web in (HOUSE, LONE):
            for call in (are_alike, gives_between):
                self.check_heap_errors(call, web, lambda web: [self.heap(web), self.other_heap(web)])
            for call in (least_heap, is_least, burning):
                self.check_heap_errors(call, web, lambda web: [self.heap(web), self.bank(web)])
            self.check_heap_errors(behind, web, lambda web: [self.heap(web), self.gives(web)])
            self.check_heap_errors(heap_of_tree, web, lambda web: [self.tree(web), self.bank(web)])

    def test_refused_comes_behind_apart_and_looped(self):
        for web, error in ((APART, Apart), (LOOPED, Looped), (APART_AND_LOOPED, Apart)):
            self.raises(error, None, None, burning, web, (0, -1, 0), "a")
            self.raises(UnknownPlace, "value", "d", burning, web, (0, -1, 0), "d")
            self.raises(error, None, None, behind, web, (MOST, 0, 0), (0, MOST, 0))
        for at in range(3):
            for number in (-1, -MOST):
                heap = tuple(number if k == at else 1 for k in range(3))
                for bank in "abc":
                    if bank != "abc"[at]:
                        self.raises(Refused, "value", heap, burning, HOUSE, heap, bank)
        self.raises(Refused, "value", (-1, -1, 0), burning, HOUSE, (-1, -1, 0), "b")
        self.raises(InvalidHeap, "index", 1, burning, HOUSE, (-1, MOST + 1, 0), "b")

    def test_numbers_at_their_bounds(self):
        self.assertEqual(behind(HOUSE, (MOST, -MOST, 0), (MOST, MOST, MOST)), (MOST, -MOST, 0))
        self.raises(InvalidHeap, "index", 2, behind, HOUSE, (MOST, -MOST, -MOST - 1), None)
        self.raises(InvalidRow, "index", 0, behind, HOUSE, (MOST, -MOST, 0), (MOST + 1, 0, None))
        self.raises(NotATree, "value", (0, 1), heap_of_tree, HOUSE, (0, 1), "z")
        self.raises(Apart, None, None, least_heap, Web("ab", ()), (0, 0), "a")
        self.raises(Looped, None, None, least_heap, Web("a", ("aa",)), (0,), "a")

    def test_nothing_is_altered(self):
        self.unaltered(behind, HOUSE, (1, 2, 3), (0, 1, 2))
        for call in (are_alike, gives_between):
            self.unaltered(call, HOUSE, (1, 2, 3), (3, 2, 1))
        for call in (least_heap, is_least, burning):
            self.unaltered(call, BIG, (1, 2, 3, 0, 0, 0, 9), "c")
        self.unaltered(heap_of_tree, HOUSE, (0, 2), "b")


if __name__ == "__main__":
    unittest.main()
