import unittest
from itertools import product

import oracle_heaps as told
from cases import Case
from samples import (
    APART, APART_AND_LOOPED, BIG, CHAIN, DOUBLED, FULL, HOUSE, LONE, LOOPED, PATH, RING_OF_TWO, STAR, THREE,
    TIES_OF_TWO, WHEEL_AND_TWIG, Dice, heap_webs, tiny_heap_webs, wrong_heaps, wrong_places, wrong_webs,
)
from webreckon.errors import Apart, InvalidHeap, Looped, Refused, UnknownPlace
from webreckon.lasting import (
    cyclic_parts, is_lasting, lasting_heaps, level, neutral, order_of_heap, settled, summed,
)
from webreckon.table import by_trees
from webreckon.trees import count_trees
from webreckon.webs import Web

MOST = 10 ** 6
GREAT_WEBS = (BIG, CHAIN, WHEEL_AND_TWIG)


def webs_with_heaps():
    return [*tiny_heap_webs()[::3], *heap_webs()]


def changed(web, heap, bank, number):
    """The heap with this number at the bank."""
    return tuple(number if place == bank else own for place, own in zip(web.places, heap))


class Settling(Case):
    def check_settled(self, web, heap, bank, dice):
        found = settled(web, heap, bank)
        self.assertEqual(found, told.settled(web, heap, bank, dice))
        self.assertEqual({part.__class__ for part in (found, *found)}, {tuple})
        return found

    def test_small_webs(self):
        dice = Dice(3)
        for web in webs_with_heaps():
            for bank in web.places:
                for high in (1, 3, 6, 30):
                    heap = tuple(dice.below(high + 1) for _ in web.places)
                    found = self.check_settled(web, heap, bank, dice)
                    self.assertEqual(settled(web, found[0], bank), (found[0], (0,) * len(heap)))

    def test_all_small_heaps(self):
        dice = Dice(5)
        for web in (HOUSE, THREE, PATH, TIES_OF_TWO):
            for heap in product(range(4), repeat=len(web.places)):
                for bank in web.places:
                    self.check_settled(web, heap, bank, dice)

    def test_any_number_at_the_bank(self):
        dice = Dice(7)
        for web in (HOUSE, FULL, WHEEL_AND_TWIG):
            for bank in web.places:
                for number in (-MOST, -5, MOST):
                    self.check_settled(web, changed(web, (3,) * len(web.places), bank, number), bank, dice)

    def test_big_webs(self):
        dice = Dice(11)
        for web in GREAT_WEBS:
            for bank in web.places:
                for high in (3, 40):
                    self.check_settled(web, tuple(dice.below(high + 1) for _ in web.places), bank, dice)

    def test_great_numbers(self):
        """The gives lead to what is settled, and are as few as can be: once less at any herd, and it is not settled."""
        dice = Dice(13)
        for web in [*GREAT_WEBS, STAR, TIES_OF_TWO, PATH]:
            many = len(web.places)
            heaps = [(MOST,) * many, tuple(MOST * dice.below(2) for _ in web.places)]
            heaps += [(0,) * (many - 1) + (MOST,), (MOST,) + (0,) * (many - 1), tuple(dice.below(MOST) for _ in web.places)]
            for heap in heaps:
                for bank in web.places:
                    found, gives = settled(web, heap, bank)
                    self.assertEqual(told.behind(web, heap, gives), found)
                    self.assertEqual(gives[web.places.index(bank)], 0)
                    self.assertGreaterEqual(min(gives), 0)
                    self.assertTrue(told.is_settled(web, found, bank))
                    others = web.places.replace(bank, "")
                    self.assertGreaterEqual(told.least_below(web, found, others), 0)
                    for herd in told.herds_without(web, bank):
                        if all(gives[web.places.index(place)] for place in herd):
                            fewer = [often - (place in herd) for place, often in zip(web.places, gives)]
                            self.assertFalse(told.is_settled(web, told.behind(web, heap, fewer), bank))

    def test_some_places_of_a_great_heap_by_hand(self):
        self.assertEqual(settled(TIES_OF_TWO, (0, MOST), "h"), ((0, MOST), (0, 0)))
        self.assertEqual(settled(TIES_OF_TWO, (MOST, MOST), "h"), ((0, 2 * MOST), (MOST // 5, 0)))
        self.assertEqual(settled(TIES_OF_TWO, (MOST - 1, 0), "h"), ((4, MOST - 5), (MOST // 5 - 1, 0)))
        found = ((MOST - 1, 1, 0), (0, MOST - 1, 2 * MOST - 1))
        self.assertEqual(settled(Web("abc", ("ab", "bc")), (0, 0, MOST), "a"), found)

    def test_by_hand(self):
        self.assertEqual(settled(web=THREE, heap=(0, 2, 2), bank="a"), ((2, 1, 1), (0, 1, 1)))
        self.assertEqual(settled(THREE, (-4, 1, 1), "a"), ((-4, 1, 1), (0, 0, 0)))
        self.assertEqual(settled(LONE, (-9,), "h"), ((-9,), (0,)))


class Lasting(Case):
    def check_heaps(self, web, bank, dice):
        every = told.lasting_heaps(web, bank, dice)
        self.assertEqual(lasting_heaps(web, bank), tuple(every))
        self.assertEqual(len(every), count_trees(web))
        rows = [range(1) if place == bank else range(len(told.ties_at(web, place)) + 1) for place in web.places]
        for heap in product(*rows):
            self.assertIs(is_lasting(web, heap, bank), heap in every)
        return every

    def check_levels(self, web, bank, every):
        late = [sum(column) for column in zip(*by_trees(web))]
        levels = [level(web, heap, bank) for heap in every]
        self.assertEqual([levels.count(number) for number in range(len(late))], late)
        for heap, found in zip(every, levels):
            self.assertEqual(found, sum(heap) + len(told.ties_at(web, bank)) - len(web.ties))

    def test_small_webs(self):
        dice = Dice(17)
        for web in webs_with_heaps():
            for bank in web.places:
                self.check_levels(web, bank, self.check_heaps(web, bank, dice))

    def test_big_webs(self):
        dice = Dice(19)
        for web in GREAT_WEBS:
            for bank in (web.places[0], web.places[5]):
                every = lasting_heaps(web, bank)
                self.assertEqual(len(every), count_trees(web))
                self.assertEqual(list(every), sorted(set(every)))
                for heap in every[::9]:
                    self.assertTrue(told.is_lasting(web, heap, bank, dice))
                    self.assertIs(is_lasting(web, heap, bank), True)
                self.check_levels(web, bank, every)
                for _ in range(40):
                    heap = tuple(dice.below(len(told.ties_at(web, place)) + 1) for place in web.places)
                    self.assertIs(is_lasting(web, heap, bank), told.is_lasting(web, heap, bank, dice))

    def test_the_number_at_the_bank_is_not_looked_at(self):
        for web in (HOUSE, FULL, LONE):
            for bank in web.places:
                own = neutral(web, bank)
                for heap in lasting_heaps(web, bank):
                    for number in (-MOST, -1, 1, MOST):
                        other = changed(web, heap, bank, number)
                        self.assertIs(is_lasting(web, other, bank), True)
                        self.assertEqual(level(web, other, bank), level(web, heap, bank))
                        self.assertEqual(summed(web, other, other, bank), summed(web, heap, heap, bank))
                        self.assertEqual(order_of_heap(web, other, bank), order_of_heap(web, heap, bank))
                        self.assertEqual(summed(web, own, other, bank), heap)

    def test_great_heaps_last_not(self):
        for web in [*GREAT_WEBS, HOUSE, RING_OF_TWO]:
            for heap in ((MOST,) * len(web.places), (0,) * (len(web.places) - 1) + (MOST,)):
                self.assertIs(is_lasting(web, heap, web.places[0]), False)

    def test_by_hand(self):
        self.assertEqual(lasting_heaps(web=THREE, bank="a"), ((0, 0, 1), (0, 1, 0), (0, 1, 1)))
        self.assertEqual(lasting_heaps(LONE, "h"), ((0,),))
        self.assertEqual(lasting_heaps(PATH, "c"), ((0, 0, 0, 1),))
        self.assertIs(is_lasting(web=THREE, heap=(0, 0, 1), bank="a"), True)
        self.assertIs(is_lasting(THREE, (0, 0, 0), "a"), False)
        self.assertIs(is_lasting(LONE, (-4,), "h"), True)
        self.assertEqual(level(web=THREE, heap=(0, 1, 1), bank="a"), 1)
        self.assertEqual(level(LONE, (5,), "h"), 0)


class Group(Case):
    def check_group(self, web, bank, dice, step):
        every = lasting_heaps(web, bank)
        own = neutral(web, bank)
        self.assertIn(own, every)
        for heap in every[::step]:
            self.assertEqual(summed(web, own, heap, bank), heap)
            for other in every[::step]:
                added = tuple(one + two for one, two in zip(heap, other))
                end = told.without_bank(web, told.settled(web, added, bank, dice)[0], bank)
                self.assertEqual(summed(web, heap, other, bank), end)
                self.assertEqual(summed(web, other, heap, bank), end)

    def check_orders(self, web, bank, step):
        own = neutral(web, bank)
        for heap in lasting_heaps(web, bank)[::step]:
            order, at = 1, heap
            while at != own:
                at = summed(web, at, heap, bank)
                order += 1
            self.assertEqual(order_of_heap(web, heap, bank), order)

    def check_parts(self, web):
        """The product tells the trees, and as many heaps have an order that divides a number as the parts tell."""
        parts = cyclic_parts(web)
        self.assertIs(parts.__class__, tuple)
        trees = 1
        for at, part in enumerate(parts):
            self.assertGreater(part, 1)
            self.assertEqual(part % parts[at - 1] if at else 0, 0)
            trees *= part
        self.assertEqual(trees, count_trees(web))
        for bank in (web.places[0], web.places[-1]):
            orders = [order_of_heap(web, heap, bank) for heap in lasting_heaps(web, bank)]
            for number in range(1, max(orders) + 1):
                many = 1
                for part in parts:
                    many *= max(divisor for divisor in range(1, number + 1) if number % divisor == part % divisor == 0)
                self.assertEqual(sum(1 for order in orders if number % order == 0), many)

    def test_small_webs(self):
        dice = Dice(23)
        for web in webs_with_heaps():
            for bank in web.places:
                self.check_group(web, bank, dice, 1 if count_trees(web) < 9 else 4)
                self.check_orders(web, bank, 2)
            self.check_parts(web)

    def test_big_webs(self):
        dice = Dice(29)
        for web in GREAT_WEBS:
            self.check_group(web, web.places[2], dice, 37)
            self.check_orders(web, web.places[3], 67)
            self.check_parts(web)

    def test_parts_that_are_alike(self):
        self.assertEqual(cyclic_parts(FULL), (4, 4))
        self.assertEqual(cyclic_parts(CHAIN), (2, 2, 2, 2, 2))
        self.assertEqual(cyclic_parts(Web("abc", ("ab",) * 4 + ("bc",) * 6)), (2, 12))
        self.assertEqual(cyclic_parts(Web("abcd", ("ab",) * 2 + ("bc",) * 3 + ("cd",) * 6)), (6, 6))
        self.assertEqual(cyclic_parts(Web("abcd", ("ab",) * 4 + ("bc",) * 2 + ("cd",) * 4)), (2, 4, 4))
        self.assertEqual(cyclic_parts(TIES_OF_TWO), (5,))

    def test_by_hand(self):
        self.assertEqual(cyclic_parts(web=THREE), (3,))
        for web in (LONE, PATH, Web("ab", ("ab",))):
            self.assertEqual(cyclic_parts(web), ())
        self.assertEqual(neutral(web=THREE, bank="a"), (0, 1, 1))
        self.assertEqual(neutral(LONE, "h"), (0,))
        self.assertEqual(summed(web=THREE, heap=(0, 0, 1), other_heap=(0, 1, 0), bank="a"), (0, 1, 1))
        self.assertEqual(summed(LONE, (4,), (-3,), "h"), (0,))
        self.assertEqual(order_of_heap(web=THREE, heap=(0, 1, 1), bank="a"), 1)
        self.assertEqual(order_of_heap(THREE, (0, 0, 1), "a"), 3)
        self.assertEqual(order_of_heap(LONE, (9,), "h"), 1)


class Errors(Case):
    def heap(self, web):
        """A lasting heap with bank a, b or c of the webs that are passed here."""
        return ("heap", tuple(len(told.ties_at(web, place)) - 1 for place in web.places), wrong_heaps(web))

    def other_heap(self, web):
        return ("other_heap", self.heap(web)[1], wrong_heaps(web))

    def bank(self, web):
        return ("bank", web.places[-1], wrong_places(web))

    def settling_heap(self, web):
        return ("heap", (2,) * len(web.places), wrong_heaps(web))

    def test_each_parameter(self):
        for web in (HOUSE, LONE):
            for call in (settled, is_lasting):
                self.check_heap_errors(call, web, lambda web: [self.settling_heap(web), self.bank(web)])
            for call in (level, order_of_heap):
                self.check_heap_errors(call, web, lambda web: [self.heap(web), self.bank(web)])
            self.check_heap_errors(summed, web, lambda web: [self.heap(web), self.other_heap(web), self.bank(web)])
            self.check_heap_errors(neutral, web, lambda web: [self.bank(web)])
            self.check_heap_errors(lasting_heaps, web, lambda web: [self.bank(web)])
            self.check_heap_errors(cyclic_parts, web, lambda web: [])
        self.check_errors(cyclic_parts, [("web", HOUSE, wrong_webs())])

    def test_refused_below_nothing(self):
        for heap, bank in (((-1, 0, 0), "b"), ((0, -1, 0), "a"), ((5, 5, -MOST), "b"), ((MOST, -1, -1), "c")):
            for call in (settled, is_lasting, level, order_of_heap):
                self.raises(Refused, "value", heap, call, HOUSE, heap, bank)

    def test_refused_for_each_place_but_the_bank(self):
        for at in range(3):
            for number in (-1, -MOST):
                heap = tuple(number if k == at else 1 for k in range(3))
                for bank in "abc":
                    for call in (settled, is_lasting):
                        if bank == "abc"[at]:
                            call(HOUSE, heap, bank)
                        else:
                            self.raises(Refused, "value", heap, call, HOUSE, heap, bank)

    def test_refused_if_not_lasting(self):
        lasting = (0, 2, 1)
        for heap in ((0, 0, 0), (0, 3, 0), (0, 2, 2), (0, MOST, 0), (0, 2, -1)):
            for call in (level, order_of_heap):
                self.raises(Refused, "value", heap, call, HOUSE, heap, "a")
            self.raises(Refused, "value", heap, summed, HOUSE, heap, lasting, "a")
            self.raises(Refused, "value", heap, summed, HOUSE, lasting, heap, "a")
            self.raises(Refused, "value", heap, summed, HOUSE, heap, (7, 0, 0), "a")
        self.raises(InvalidHeap, "index", 0, summed, HOUSE, (0, 0, 0), (MOST + 1, 0, 0), "a")
        self.raises(UnknownPlace, "value", "d", summed, HOUSE, (0, 0, 0), (0, 0, 0), "d")

    def test_refused_comes_behind_apart_and_looped(self):
        for web, error in ((APART, Apart), (LOOPED, Looped), (APART_AND_LOOPED, Apart)):
            for call in (settled, is_lasting, level, order_of_heap):
                self.raises(error, None, None, call, web, (0, -1, 0), "a")
            self.raises(error, None, None, summed, web, (0, -1, 0), (0, 0, 0), "a")

    def test_nothing_is_altered(self):
        for call in (settled, is_lasting, level, order_of_heap):
            self.unaltered(call, HOUSE, (0, 2, 1), "a")
        self.unaltered(summed, DOUBLED, *lasting_heaps(DOUBLED, "g")[3:5], "g")
        self.unaltered(neutral, BIG, "c")
        self.unaltered(lasting_heaps, BIG, "c")
        self.unaltered(cyclic_parts, BIG)


if __name__ == "__main__":
    unittest.main()
