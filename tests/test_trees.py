import unittest

import oracle
from cases import Case
from samples import (
    BIG, BIG_MIXED, HOUSE, LONE, LONE_LOOPS, NO_TIES, TWO_PARTS, Dice, few_webs, middle_webs, tiny_webs,
    wrong_indexes, wrong_lengths, wrong_lots, wrong_numbers, wrong_trees, wrong_webs,
)
from webreckon.errors import InvalidIndex, InvalidLengths, InvalidLot, InvalidNumber, NotATree
from webreckon.trees import (
    all_trees, bound_of, count_least, count_trees, exchanges, index_of_tree, least_length, least_tree, nth_tree,
    trees_with,
)
from webreckon.webs import Web

FAR = 10 ** 9


def rows_of_lengths(web, seed):
    """Lengths that are alike, few ones, negative ones, and ones at the bounds."""
    many = len(web.ties)
    dice = Dice(seed)
    rows = [(7,) * many, (-FAR,) * many, (FAR,) * many, tuple(range(many)), tuple(range(0, -many, -1))]
    rows.append(tuple(dice.below(3) for _ in range(many)))
    rows.append(tuple(dice.below(5) - 2 for _ in range(many)))
    rows.append(tuple((FAR, -FAR, 0, FAR - 1)[dice.below(4)] for _ in range(many)))
    return rows


class AllTrees(Case):
    def check_trees(self, web):
        trees = oracle.Lots(web).trees()
        self.assertEqual(all_trees(web), trees)
        self.assertEqual(count_trees(web), len(trees))
        for number, tree in enumerate(trees):
            self.assertEqual(nth_tree(web, number), tree)
            self.assertEqual(index_of_tree(web, tree), number)
            for index in range(len(web.ties)):
                told = oracle.exchanges(trees, tree, index, range(len(web.ties)))
                self.assertEqual(exchanges(web, tree, index), told)
        self.raises(InvalidNumber, "value", len(trees), nth_tree, web, len(trees))
        return trees

    def test_tiny_and_middle_webs(self):
        for web in [*tiny_webs(), *middle_webs()]:
            self.check_trees(web)

    def test_big_webs(self):
        self.check_trees(BIG)
        self.check_trees(BIG_MIXED)

    def test_trees_with(self):
        for web in [*tiny_webs()[::9], *few_webs()]:
            trees = oracle.Lots(web).trees()
            some = oracle.all_lots(web)
            for inside in some[::3]:
                for outside in some[::2]:
                    told = [tree for tree in trees if set(inside) <= set(tree) and not set(outside) & set(tree)]
                    self.assertEqual(trees_with(web, inside, outside), len(told))

    def test_trees_with_on_a_big_web(self):
        many = count_trees(BIG)
        self.assertEqual(trees_with(BIG, (), ()), many)
        for index in range(11):
            self.assertEqual(trees_with(BIG, (index,), ()) + trees_with(BIG, (), (index,)), many)
            self.assertEqual(trees_with(BIG, (index,), (index,)), 0)
        self.assertEqual(trees_with(BIG, tuple(range(11)), ()), 0)

    def test_by_hand(self):
        self.assertEqual(all_trees(web=HOUSE), ((0, 2), (0, 3), (1, 2), (1, 3), (2, 3)))
        self.assertEqual(count_trees(web=HOUSE), 5)
        self.assertEqual(all_trees(LONE), ((),))
        self.assertEqual(all_trees(NO_TIES), ((),))
        self.assertEqual(all_trees(LONE_LOOPS), ((),))
        self.assertEqual(index_of_tree(LONE_LOOPS, ()), 0)
        self.assertEqual(count_trees(TWO_PARTS), 6)
        self.assertEqual(exchanges(HOUSE, (0, 2), 0), (1, 3))
        self.assertEqual(exchanges(HOUSE, (0, 2), 1), (0,))
        self.assertEqual(exchanges(web=HOUSE, tree=(0, 2), index=3), (0, 2))
        self.assertEqual(exchanges(LONE_LOOPS, (), 1), ())
        self.assertEqual(nth_tree(number=4, web=HOUSE), (2, 3))
        self.assertEqual(index_of_tree(tree=(2, 3), web=HOUSE), 4)
        self.assertEqual(trees_with(web=HOUSE, inside=(2,), outside=(0, 1)), 1)

    def test_exchanges_go_both_ways(self):
        for tree in all_trees(BIG)[::10]:
            for index in range(11):
                for other in exchanges(BIG, tree, index):
                    self.assertIn(index, exchanges(BIG, tree, other))


class LeastTrees(Case):
    def check_least(self, web, lengths):
        lots = oracle.Lots(web)
        trees = lots.trees()
        least, told = oracle.least_trees(trees, lengths)
        self.assertEqual(least_length(web, lengths), least)
        self.assertEqual(count_least(web, lengths), len(told))
        self.assertEqual(least_tree(web, lengths), told[0])
        bonds, rings = lots.bonds(), lots.rings()
        for index in range(len(web.ties)):
            bound = bound_of(web, lengths, index)
            if bound is None:
                self.assertTrue((index,) in bonds or (index,) in rings)
                continue
            self.assertFalse((index,) in bonds or (index,) in rings)
            for more, where in ((-1, "all"), (0, "some"), (1, "none"), (-4 * FAR, "all"), (4 * FAR, "none")):
                self.assertEqual(oracle.place_of_bound(trees, lengths, index, bound + more), where)

    def test_tiny_and_few_webs(self):
        for at, web in enumerate([*tiny_webs()[::3], *few_webs()]):
            for lengths in rows_of_lengths(web, at):
                self.check_least(web, lengths)

    def test_big_webs(self):
        for web in (BIG, BIG_MIXED):
            for lengths in rows_of_lengths(web, 77)[3:]:
                self.check_least(web, lengths)

    def test_by_hand(self):
        self.assertEqual(least_length(web=HOUSE, lengths=(3, -2, 4, 4)), 2)
        self.assertEqual(count_least(web=HOUSE, lengths=(3, -2, 4, 4)), 2)
        self.assertEqual(least_tree(web=HOUSE, lengths=(3, -2, 4, 4)), (1, 2))
        self.assertEqual(bound_of(web=HOUSE, lengths=(3, -2, 4, 4), index=0), -2)
        self.assertEqual(bound_of(HOUSE, (3, -2, 4, 4), 2), 4)
        self.assertEqual(bound_of(HOUSE, (3, -2, 9, 4), 3), 9)
        self.assertEqual((least_length(LONE, ()), count_least(LONE, ()), least_tree(LONE, ())), (0, 1, ()))
        self.assertEqual(least_length(LONE_LOOPS, (-FAR, -5, 1)), 0)
        self.assertEqual([bound_of(LONE_LOOPS, (1, 2, 3), at) for at in range(3)], [None] * 3)
        self.assertEqual(bound_of(Web("abc", ("ab", "bc")), (1, 2), 0), None)
        self.assertEqual(least_length(BIG, (FAR,) * 11), 6 * FAR)
        self.assertEqual(least_length(BIG, (-FAR,) * 11), -6 * FAR)


class Errors(Case):
    def test_of_a_web(self):
        for call in (count_trees, all_trees):
            self.check_errors(call, [("web", HOUSE, wrong_webs())])

    def test_trees_with(self):
        self.check_errors(trees_with, [
            ("web", HOUSE, wrong_webs()), ("inside", (0,), wrong_lots(HOUSE)), ("outside", (2, 3), wrong_lots(HOUSE)),
        ])

    def test_numbers(self):
        for web, many in ((HOUSE, 5), (LONE, 1), (LONE_LOOPS, 1), (TWO_PARTS, 6)):
            self.check_errors(nth_tree, [("web", web, wrong_webs()), ("number", 0, wrong_numbers(many))])

    def test_trees(self):
        no_trees = ((), (0,), (0, 1), (0, 1, 2), (0, 1, 2, 3), (0, 2, 3))
        wrongs = wrong_trees(HOUSE, no_trees)
        self.check_errors(index_of_tree, [("web", HOUSE, wrong_webs()), ("tree", (0, 2), wrongs)])
        self.check_errors(exchanges, [
            ("web", HOUSE, wrong_webs()), ("tree", (1, 3), wrongs), ("index", 3, wrong_indexes(HOUSE)),
        ])
        self.raises(NotATree, "value", (1,), index_of_tree, LONE_LOOPS, (1,))
        self.raises(NotATree, "value", (0, 1, 2, 4), index_of_tree, TWO_PARTS, (0, 1, 2, 4))
        self.raises(InvalidLot, "index", 2, index_of_tree, HOUSE, (0, 1, 9))

    def test_lengths(self):
        for call in (least_length, count_least, least_tree):
            for web, lengths in ((HOUSE, (1, -FAR, FAR, 0)), (LONE, ()), (LONE_LOOPS, (1, 1, 1))):
                self.check_errors(call, [("web", web, wrong_webs()), ("lengths", lengths, wrong_lengths(web))])
        self.check_errors(bound_of, [
            ("web", HOUSE, wrong_webs()), ("lengths", (1, 2, 3, 4), wrong_lengths(HOUSE)),
            ("index", 0, wrong_indexes(HOUSE)),
        ])
        self.raises(InvalidLengths, "index", None, bound_of, LONE, (1,), 0)
        self.raises(InvalidIndex, "value", 0, bound_of, LONE, (), 0)
        self.raises(InvalidLengths, "index", 1, least_length, HOUSE, (1, FAR + 1, -FAR - 1, None))

    def test_nothing_is_altered(self):
        self.unaltered(all_trees, BIG_MIXED)
        self.unaltered(exchanges, HOUSE, (0, 2), 1)
        self.unaltered(trees_with, HOUSE, (0,), (2,))
        for call in (least_length, count_least, least_tree):
            self.unaltered(call, HOUSE, (4, 3, 2, 1))
        self.unaltered(bound_of, HOUSE, (4, 3, 2, 1), 0)


if __name__ == "__main__":
    unittest.main()
