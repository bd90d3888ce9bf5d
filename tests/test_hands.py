import unittest

import oracle
import oracle_heaps as told
from cases import Case
from samples import (
    APART, APART_AND_LOOPED, BIG, CHAIN, DOUBLED, HOUSE, LONE, LOOPED, RING_OF_TWO, THREE, TIES_OF_TWO,
    WHEEL_AND_TWIG, Dice, heap_webs, tiny_heap_webs, wrong_heaps, wrong_places, wrong_trees,
)
from webreckon.errors import Apart, Looped, NotATree, Refused, TooMany, UnknownPlace
from webreckon.hands import leading_heap, led, walked
from webreckon.lasting import lasting_heaps, neutral, summed
from webreckon.trees import all_trees
from webreckon.webs import Web

MOST = 10 ** 6
GREAT_WEBS = (BIG, CHAIN, WHEEL_AND_TWIG)


def webs_with_hands():
    return [*tiny_heap_webs()[::3], *heap_webs()]


class Walkers(Case):
    def check_walks(self, web, bank, step=1):
        trees = all_trees(web)
        for tree in trees[::step]:
            for place in web.places:
                found = walked(web, tree, place, bank)
                self.assertEqual(found, told.walked(web, tree, place, bank))
                self.assertIn(found[0], trees)
            self.assertEqual(walked(web, tree, bank, bank), (tree, 0))

    def test_small_webs(self):
        for web in webs_with_hands():
            for bank in web.places:
                self.check_walks(web, bank)

    def test_big_webs(self):
        for web in GREAT_WEBS:
            for bank in web.places:
                self.check_walks(web, bank, 11)

    def test_by_hand(self):
        self.assertEqual(walked(web=THREE, tree=(0, 2), place="b", bank="a"), ((0, 1), 3))
        self.assertEqual(walked(THREE, (0, 2), "c", "a"), ((1, 2), 3))
        self.assertEqual(walked(THREE, (0, 2), "a", "a"), ((0, 2), 0))
        self.assertEqual(walked(LONE, (), "h", "h"), ((), 0))
        self.assertEqual(walked(TIES_OF_TWO, (4,), "b", "h"), ((0,), 1))
        self.assertEqual(walked(TIES_OF_TWO, (1,), "h", "b"), ((2,), 1))


class Led(Case):
    def check_led(self, web, tree, heap, bank, dice):
        found = led(web, tree, heap, bank)
        for _ in range(2):
            self.assertEqual(found, told.led(web, tree, heap, bank, dice))
        return found

    def test_small_webs(self):
        dice = Dice(3)
        for web in webs_with_hands():
            for bank in web.places:
                for tree in all_trees(web)[::3]:
                    self.check_led(web, tree, tuple(dice.below(4) for _ in web.places), bank, dice)

    def test_big_webs(self):
        dice = Dice(5)
        for web in GREAT_WEBS:
            for bank in web.places[::2]:
                for tree in all_trees(web)[::29]:
                    self.check_led(web, tree, tuple(dice.below(4) for _ in web.places), bank, dice)

    def test_just_as_many_as_can_walk(self):
        dice = Dice(7)
        for web in (BIG, CHAIN):
            tree = all_trees(web)[5]
            for heap in ((0, 200, 0, 0, 0, 0, 0), (MOST, 40, 30, 30, 50, 0, 50), (-MOST, 1, 1, 1, 1, 1, 195)):
                self.check_led(web, tree, heap, "a", dice)
                self.raises(TooMany, "limit", 200, led, web, tree, heap[:3] + (heap[3] + 1,) + heap[4:], "a")
            self.raises(TooMany, "limit", 200, led, web, tree, (0, 0, 0, 0, 0, 0, MOST), "a")

    def test_lasting_heaps_lead_each_tree_to_each_one_once(self):
        for web in [*webs_with_hands()[::2], CHAIN]:
            trees = all_trees(web)
            bank = web.places[len(web) % len(web.places)]
            for tree in trees[::max(1, len(trees) // 3)]:
                ends = [led(web, tree, heap, bank) for heap in lasting_heaps(web, bank)]
                self.assertEqual(sorted(ends), list(trees))
                self.assertEqual(led(web, tree, neutral(web, bank), bank), tree)

    def test_a_sum_leads_as_one_behind_the_other(self):
        for web in (HOUSE, DOUBLED, BIG):
            bank = web.places[1]
            heaps = lasting_heaps(web, bank)
            for tree in all_trees(web)[::17]:
                for one, other in zip(heaps[::3], heaps[::-5]):
                    end = led(web, led(web, tree, one, bank), other, bank)
                    self.assertEqual(led(web, tree, summed(web, one, other, bank), bank), end)

    def test_by_hand(self):
        self.assertEqual(led(web=THREE, tree=(0, 2), heap=(0, 1, 0), bank="a"), (0, 1))
        self.assertEqual(led(THREE, (0, 2), (9, 0, 0), "a"), (0, 2))
        self.assertEqual(led(THREE, (0, 2), (0, 1, 1), "a"), (0, 2))
        self.assertEqual(led(LONE, (), (-MOST,), "h"), ())
        self.assertEqual(led(TIES_OF_TWO, (0,), (0, 103), "b"), (3,))


class Leading(Case):
    def check_leading(self, web, bank, step):
        heaps = lasting_heaps(web, bank)
        trees = all_trees(web)
        for tree in trees[::step]:
            for other in trees[::step]:
                heap = leading_heap(web, tree, other, bank)
                self.assertIn(heap, heaps)
                self.assertEqual(led(web, tree, heap, bank), other)
            self.assertEqual(leading_heap(web, tree, tree, bank), neutral(web, bank))

    def test_small_webs(self):
        for web in webs_with_hands():
            for bank in web.places:
                self.check_leading(web, bank, 1 if len(all_trees(web)) < 9 else 3)

    def test_big_webs(self):
        for web in GREAT_WEBS:
            for bank in web.places[::3]:
                self.check_leading(web, bank, 37)

    def test_by_hand(self):
        self.assertEqual(leading_heap(web=THREE, tree=(0, 2), other_tree=(0, 2), bank="a"), (0, 1, 1))
        self.assertEqual(leading_heap(THREE, (0, 2), (1, 2), "a"), (0, 0, 1))
        self.assertEqual(leading_heap(LONE, (), (), "h"), (0,))
        self.assertEqual(leading_heap(RING_OF_TWO, (0,), (1,), "c"), (0, 1))


class Errors(Case):
    def tree_named(self, name, web):
        trees = all_trees(web)
        return (name, trees[0], wrong_trees(web, [lot for lot in oracle.all_lots(web) if lot not in trees]))

    def place_named(self, name, web):
        return (name, web.places[-1], wrong_places(web))

    def heap(self, web):
        return ("heap", (2,) * len(web.places), wrong_heaps(web))

    def test_each_parameter(self):
        for web in (HOUSE, LONE):
            self.check_heap_errors(walked, web, lambda web: [
                self.tree_named("tree", web), self.place_named("place", web), self.place_named("bank", web),
            ])
            self.check_heap_errors(led, web, lambda web: [
                self.tree_named("tree", web), self.heap(web), self.place_named("bank", web),
            ])
            self.check_heap_errors(leading_heap, web, lambda web: [
                self.tree_named("tree", web), self.tree_named("other_tree", web), self.place_named("bank", web),
            ])

    def test_refused_comes_ahead_of_too_many(self):
        for heap in ((0, -1, 0), (0, -1, 202), (7, 500, -1), (-5, -5, -5)):
            self.raises(Refused, "value", heap, led, HOUSE, (0, 2), heap, "a")
        self.raises(TooMany, "limit", 200, led, HOUSE, (0, 2), (-1, 200, 1), "a")
        self.raises(TooMany, "limit", 200, led, HOUSE, (0, 2), (201, -MOST, 0), "b")
        for web, error in ((APART, Apart), (LOOPED, Looped), (APART_AND_LOOPED, Apart)):
            tree = all_trees(web)[0]
            self.raises(error, None, None, led, web, tree, (0, -1, 0), "a")
            self.raises(error, None, None, led, web, tree, (0, 500, 0), "a")
            self.raises(UnknownPlace, "value", "d", led, web, tree, (0, 500, 0), "d")
        self.raises(NotATree, "value", (0,), leading_heap, HOUSE, (0, 2), (0,), "z")
        self.raises(Apart, None, None, walked, Web("ab", ()), (), "a", "b")

    def test_nothing_is_altered(self):
        self.unaltered(walked, HOUSE, (0, 2), "b", "a")
        self.unaltered(led, HOUSE, (0, 2), (1, 2, 3), "a")
        self.unaltered(leading_heap, HOUSE, (0, 2), (1, 3), "a")


if __name__ == "__main__":
    unittest.main()
