"""What several parts of the program reckon of one thing is the same; and what is known of some webs is so in all."""

import unittest
from fractions import Fraction
from math import prod

from cases import Case
from samples import (
    BIG, BIG_MIXED, CHAIN, FULL, HOUSE, LONE, LONE_LOOPS, NO_TIES, PATH, RING_OF_TWO, STAR, THREE, TIES_OF_TWO,
    TWO_PARTS, WHEEL_AND_TWIG, is_for_heaps, thrown_webs,
)
from webreckon.boards import Board
from webreckon.certificates import certify_alike, certify_like, certify_trees
from webreckon.checker import accepts
from webreckon.consoles import Console
from webreckon.currents import count_currents, current_counts, even_cuts, least_rest
from webreckon.doubts import count_fits, range_of, reaching
from webreckon.dyes import count_dyes, dye_counts, least_dyes, rising_pairs
from webreckon.errors import Broken
from webreckon.heaps import heap_of_tree, is_least, least_heap
from webreckon.lasting import cyclic_parts, is_lasting, lasting_heaps, level, neutral, settled, summed
from webreckon.leanings import count_sorts, fronts, is_ringless, ringed, ringless, with_front
from webreckon.likeness import are_like, count_renamings, plain_text
from webreckon.lots import blocks, bonds, bridges, pieces, rank, rings, spare
from webreckon.pulls import pull, shares, steps, there_and_back
from webreckon.ranks import is_free, mate
from webreckon.ranks import rank as rank_of_heap
from webreckon.samples import house, wheel
from webreckon.scores import all_rows, count_leanings, count_rows, row_of
from webreckon.shelves import Shelf
from webreckon.table import by_trees, lot_counts, table, value
from webreckon.trees import all_trees, count_least, count_trees
from webreckon.ways import amount, count_apart, count_clear, joined_by
from webreckon.webs import Web, cut, is_whole, put, shut
from webreckon.yards import Yard

GREAT_WEBS = (BIG, BIG_MIXED, CHAIN, WHEEL_AND_TWIG)


def at(web, x, y):
    top, bottom = value(web, (x, 1), (y, 1))
    assert bottom == 1
    return top


def all_ties(web):
    return tuple(range(len(web.ties)))


def webs_that_meet():
    return [HOUSE, LONE, LONE_LOOPS, NO_TIES, RING_OF_TWO, TWO_PARTS, FULL, PATH, STAR, TIES_OF_TWO, THREE, wheel(3),
            *thrown_webs(223, 14, 6, 7), *GREAT_WEBS]


def told_sum(counts, number):
    return sum(count * number ** power for power, count in enumerate(counts))


class Meeting(Case):
    def test_one_number_in_many_ways(self):
        for web in webs_that_meet():
            console = Console(web)
            for word, x, y, others in (
                ("trees", 1, 1, (count_trees(web), len(all_trees(web)), count_sorts(web, "both"))),
                ("woods", 2, 1, (count_sorts(web, "rings"), count_rows(web), len(all_rows(web)))),
                ("holds", 1, 2, (count_sorts(web, "cuts"),)),
                ("ringless", 2, 0, (len(ringless(web)), abs(told_sum(dye_counts(web), -1)), rising_pairs(web, 1))),
            ):
                number = at(web, x, y)
                self.assertEqual([number] * len(others), list(others), (web.text(), word))
                self.assertEqual(range_of(web, (), word), (number, number))
                self.assertEqual(count_fits(web, (), ((word, number),)), 1)
                self.assertEqual(count_fits(web, (), ((word, number + 1),)), 0)
                self.assertEqual(reaching(web, (), word, number), ((),))
                self.assertEqual(reaching(web, (), word, number + 1), ())
                if word != "ringless":
                    self.assertEqual(console.say(word), str(number))
            self.assertEqual(at(web, 0, 2), len(ringed(web)))
            self.assertEqual(at(web, 2, 2), 2 ** len(web.ties))
            self.assertEqual(console.say("rows"), console.say("woods"))
            self.assertEqual(abs(at(web, -1, -1)), len(even_cuts(web)))
            self.assertEqual(by_trees(web), table(web))
            self.assertEqual(sum(map(sum, lot_counts(web))), 2 ** len(web.ties))

    def test_the_table_by_cutting_and_shutting(self):
        for web in webs_that_meet():
            for index in {0, len(web.ties) // 2, len(web.ties) - 1} if web.ties else ():
                rows = {(i, j): many for i, row in enumerate(table(web)) for j, many in enumerate(row) if many}
                rests = [shut(web, index)] if index in bridges(web) else [cut(web, index)]
                more = (index in bridges(web), web.ties[index][0] == web.ties[index][1])
                if not any(more):
                    rests.append(shut(web, index))
                sums = {}
                for rest in rests:
                    for i, row in enumerate(table(rest)):
                        for j, many in enumerate(row):
                            if many:
                                here = (i + more[0], j + more[1])
                                sums[here] = sums.get(here, 0) + many
                self.assertEqual(rows, sums)

    def test_dyes_and_currents(self):
        for web in webs_that_meet():
            lot = all_ties(web)
            for number in (1, 2, 3, 6):
                right = (-1) ** rank(web, lot) * number ** len(pieces(web, lot)) * at(web, 1 - number, 0)
                self.assertEqual(count_dyes(web, number), right)
                self.assertEqual(told_sum(dye_counts(web), number), right)
            for number in (2, 3, 6):
                right = (-1) ** spare(web, lot) * at(web, 0, 1 - number)
                self.assertEqual(count_currents(web, number), right)
                self.assertEqual(told_sum(current_counts(web), number), right)
            self.assertEqual(least_dyes(web) is None, any(tie[0] == tie[1] for tie in web.ties))
            self.assertEqual(least_rest(web) is None, len(bridges(web)) > 0)

    def test_leanings_and_rows(self):
        for web in webs_that_meet():
            if len(web.ties) > 8:
                continue
            rows = all_rows(web)
            self.assertEqual(sum(count_leanings(web, row) for row in rows), 2 ** len(web.ties))
            if is_whole(web):
                for place in web.places:
                    self.assertEqual(len(with_front(web, place)), at(web, 1, 0))
            for leaning in ringless(web):
                board = Board(web, leaning)
                for place in fronts(web, leaning):
                    if any(place in tie for tie in web.ties):
                        board.do(("cut", place))
                        self.assertTrue(is_ringless(web, board.leaning))
                        board.undo()
                self.assertIn(row_of(web, leaning), rows)

    def test_rings_bonds_and_blocks(self):
        for web in webs_that_meet():
            for ring in rings(web):
                self.assertEqual((len(ring) - rank(web, ring), spare(web, ring)), (1, 1))
                for bond in bonds(web)[::3]:
                    self.assertNotEqual(len(set(ring) & set(bond)), 1)
            self.assertEqual(sorted(index for block in blocks(web) for index in block), list(all_ties(web)))
            self.assertEqual(bridges(web), tuple(bond[0] for bond in bonds(web) if len(bond) == 1))

    def test_pulls_and_trees(self):
        for web in webs_that_meet():
            self.assertEqual(sum(Fraction(*part) for part in shares(web)), rank(web, all_ties(web)))
            for tie, part in zip(web.ties, shares(web)):
                self.assertEqual(pull(web, *tie), part)
            for place in web.places:
                for other in web.places:
                    self.check_pull(web, place, other)

    def check_pull(self, web, place, other):
        part = pull(web, place, other)
        near = [piece for piece in pieces(web, all_ties(web)) if place in piece][0]
        if other not in near:
            self.assertIsNone(there_and_back(web, place, other))
            self.assertEqual(count_apart(web, place, other), 0)
            return
        ties = [tie for tie in web.ties if tie[0] in near and tie[0] != tie[1]]
        self.assertEqual(Fraction(*there_and_back(web, place, other)), 2 * len(ties) * Fraction(*part))
        if place != other:
            self.assertLessEqual(count_clear(web, place, other), count_apart(web, place, other))
            self.assertEqual(count_apart(web, place, other), amount(web, (1,) * len(web.ties), place, other))
            if len(web.ties) < 11:
                more = put(web, place, other)
                with_tie = count_trees(more) - count_trees(web)
                self.assertEqual(Fraction(with_tie, count_trees(web)), Fraction(*part))

    def test_heaps_and_trees(self):
        for web in [web for web in webs_that_meet() if is_for_heaps(web)]:
            many = count_trees(web)
            self.assertEqual(prod(cyclic_parts(web)), many)
            late = by_trees(web)
            levels = [sum(row[j] for row in late) for j in range(len(late[0]))]
            for bank in (web.places[0], web.places[-1]):
                heaps = lasting_heaps(web, bank)
                self.assertEqual(len(heaps), many)
                found = [level(web, heap, bank) for heap in heaps]
                self.assertEqual([found.count(j) for j in range(len(levels))], levels)
                zero = neutral(web, bank)
                self.assertEqual([summed(web, heap, zero, bank) for heap in heaps[:9]], list(heaps[:9]))
                for tree in all_trees(web)[:9]:
                    self.assertTrue(is_least(web, heap_of_tree(web, tree, bank), bank))

    def test_yards_and_heaps(self):
        for web in [web for web in webs_that_meet() if is_for_heaps(web) and len(web.places) > 1]:
            heap = tuple(range(2, 2 + len(web.places)))
            bank = web.places[0]
            yard = Yard(web, heap)
            yard.settle(bank)
            self.assertEqual(yard.heap, settled(web, heap, bank)[0])
            self.assertEqual(least_heap(web, heap, bank), least_heap(web, yard.heap, bank))
            self.assertTrue(accepts(*certify_alike(web, heap, yard.heap)))
            for _ in range(2):
                yard.give(bank)
                yard.settle(bank)
            lasting = is_lasting(web, yard.heap, bank)
            self.assertIs(lasting, is_lasting(web, (0,) + yard.heap[1:], bank))

    def test_ranks(self):
        for web in [web for web in webs_that_meet() if is_for_heaps(web)]:
            heap = (3,) + (0,) * (len(web.places) - 1)
            other = mate(web, heap)
            if abs(sum(other)) <= 8:
                extra = sum(heap) - spare(web, all_ties(web)) + 1
                self.assertEqual(rank_of_heap(web, heap) - rank_of_heap(web, other), extra)
            self.assertIs(is_free(web, heap), True)

    def test_shelves_hold_what_the_parts_tell(self):
        for web in webs_that_meet():
            shelf = Shelf()
            shelf["web"] = web
            for word, number in (("trees", count_trees(web)), ("ringless", at(web, 2, 0)), ("joined", joined_by(web))):
                if number is not None and number < 1000:
                    shelf.wish((word, "web", number))
                    with self.assertRaises(Broken):
                        shelf.wish((word, "web", number + 1))
            shelf["plain"] = Web.read(plain_text(web))
            shelf.wish(("like", "web", "plain"))
            self.assertIs(are_like(web, shelf["plain"]), True)
            self.assertEqual(certify_like(web, shelf["plain"])[0][0], "like")
            self.assertEqual(certify_trees(shelf["plain"])[0][2], count_trees(web))
            self.assertEqual(count_renamings(web), count_renamings(shelf["plain"]))


def round_web(many):
    places = "abcdefg"[:many]
    return Web(places, tuple("".join(sorted(places[k] + places[(k + 1) % many])) for k in range(many)))


def full_web(many):
    places = "abcdefg"[:many]
    return Web(places, tuple(one + two for one in places for two in places if one < two))


class Known(Case):
    """Webs whose numbers are well known."""

    def test_rounds(self):
        for many in range(3, 8):
            web = round_web(many)
            self.assertEqual(count_trees(web), many)
            self.assertEqual([at(web, 2, 1), at(web, 1, 2)], [2 ** many - 1, many + 1])
            self.assertEqual([len(ringless(web)), len(ringed(web))], [2 ** many - 2, 2])
            self.assertEqual(cyclic_parts(web), (many,))
            self.assertEqual([joined_by(web), len(rings(web)), len(bonds(web))], [2, 1, many * (many - 1) // 2])
            self.assertEqual(count_renamings(web), 2 * many)
            for number in range(1, 8):
                self.assertEqual(count_dyes(web, number), (number - 1) ** many + (-1) ** many * (number - 1))
                if number > 1:
                    self.assertEqual(count_currents(web, number), number - 1)
            for away in range(1, many):
                place = web.places[away]
                part = Fraction(away * (many - away), many)
                self.assertEqual(Fraction(*pull(web, "a", place)), part)
                self.assertEqual(steps(web, "a", place), (away * (many - away), 1))
                self.assertEqual([count_apart(web, "a", place), count_clear(web, "a", place)], [2, 2])
            self.assertEqual(rank_of_heap(web, (3,) + (0,) * (many - 1)), 2)
            self.assertEqual(count_least(web, (1,) * many), many)

    def test_ties_of_two(self):
        for many in range(2, 12):
            web = Web("ab", ("ab",) * many)
            self.assertEqual([count_trees(web), joined_by(web), count_apart(web, "a", "b")], [many] * 3)
            self.assertEqual(cyclic_parts(web), (many,))
            self.assertEqual(count_dyes(web, 5), 20)
            for number in (2, 3, 7):
                self.assertEqual(count_currents(web, number), ((number - 1) ** many + (-1) ** many * (number - 1)) // number)
            self.assertEqual([len(ringless(web)), count_rows(web)], [2, many + 1])
            self.assertEqual(pull(web, "a", "b"), (1, many))

    def test_trees(self):
        for web in (PATH, Web("abcde", ("ac", "bc", "ce", "cd")), Web("abcdefg", ("ab", "ac", "bd", "be", "cf", "cg"))):
            many = len(web.places)
            self.assertEqual([count_trees(web), joined_by(web), at(web, 2, 1)], [1, 1, 2 ** (many - 1)])
            self.assertEqual([count_dyes(web, number) for number in (1, 2, 3)], [0, 2, 3 * 2 ** (many - 1)])
            self.assertEqual([cyclic_parts(web), rings(web), least_rest(web)], [(), (), None])
            self.assertEqual(len(ringless(web)), 2 ** (many - 1))
            self.assertEqual(shares(web), ((1, 1),) * (many - 1))
            self.assertEqual(rank_of_heap(web, (0,) * (many - 1) + (4,)), 4)

    def test_full_webs(self):
        four, five = full_web(4), full_web(5)
        self.assertEqual([count_trees(four), count_trees(five)], [16, 125])
        self.assertEqual(table(four), ((0, 2, 3, 1), (2, 4, 0, 0), (3, 0, 0, 0), (1, 0, 0, 0)))
        self.assertEqual([len(ringless(four)), count_rows(four), count_sorts(four, "both")], [24, 38, 16])
        self.assertEqual([cyclic_parts(four), cyclic_parts(five)], [(4, 4), (5, 5, 5)])
        self.assertEqual([count_dyes(four, 5), count_dyes(five, 5), least_dyes(five)], [120, 120, 5])
        self.assertEqual([at(five, 2, 0), at(five, 2, 1)], [120, 291])
        self.assertEqual([pull(four, "a", "d"), pull(five, "b", "c")], [(1, 2), (2, 5)])
        self.assertEqual([joined_by(four), joined_by(five), count_renamings(five)], [3, 4, 120])
        self.assertEqual([count_clear(five, "a", "e"), least_rest(four), least_rest(five)], [4, 4, 2])

    def test_wheels(self):
        for many, trees in ((3, 16), (4, 45), (5, 121)):
            web = wheel(many)
            self.assertEqual(count_trees(web), trees)
            self.assertEqual([len(web), len(web.places)], [2 * many, many + 1])
            for number in range(1, 7):
                right = number * ((number - 2) ** many + (-1) ** many * (number - 2))
                self.assertEqual(count_dyes(web, number), right)
            self.assertEqual(joined_by(web), 3)
            # In a plane, a web and what stands for its fields have tables that are turned about; a wheel is its own.
            self.assertEqual(table(web), tuple(zip(*table(web))))
        self.assertEqual(cyclic_parts(wheel(5)), (11, 11))
        self.assertEqual(cyclic_parts(wheel(4)), (3, 15))

    def test_house(self):
        self.assertEqual(table(house()), ((0, 1, 1), (1, 1, 0), (1, 0, 0)))
        self.assertEqual(plain_text(house()), "abc ab ab ac bc")
        self.assertEqual([count_renamings(house()), joined_by(house()), cyclic_parts(house())], [2, 2, (5,)])


if __name__ == "__main__":
    unittest.main()
