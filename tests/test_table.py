import unittest

import oracle
from cases import Case
from samples import (
    BIG, BIG_MIXED, HOUSE, LONE, LONE_LOOPS, NO_TIES, RING_OF_TWO, TWO_PARTS, few_webs, middle_webs, tiny_webs,
    wrong_fractions, wrong_trees, wrong_webs,
)
from webreckon.table import by_trees, early, late, lot_counts, table, value
from webreckon.trees import all_trees, count_trees, exchanges
from webreckon.webs import Web, cut, shut

POINTS = (
    ((1, 1), (1, 1)), ((2, 1), (1, 1)), ((1, 1), (2, 1)), ((2, 1), (2, 1)), ((2, 1), (0, 1)), ((0, 1), (2, 1)),
    ((0, 1), (0, 1)), ((1, 1), (0, 1)), ((0, 1), (1, 1)), ((-1, 1), (-1, 1)), ((-3, 1), (5, 2)), ((2, 3), (-7, 5)),
    ((1, 2), (1, 2)), ((10 ** 6, 1), (-10 ** 6, 1)), ((999999, 1000), (-1, 1000)), ((0, 1), (-3, 7)), ((1, 1), (3, 4)),
)


class Table(Case):
    def check_table(self, web):
        lots = oracle.Lots(web)
        rows = table(web)
        self.assertEqual(lot_counts(web), oracle.lot_counts(lots))
        self.assertEqual(len(rows), lots.full_rank + 1)
        self.assertEqual({len(row) for row in rows}, {lots.full_spare + 1})
        self.assertEqual({row.__class__ for row in rows} | {rows.__class__}, {tuple})
        self.assertTrue(all(many.__class__ is int and many >= 0 for row in rows for many in row))
        for pick in (0, 1, 5):
            powers = oracle.table_by_cutting(web.places, web.ties, pick)
            self.assertEqual(rows, oracle.rows_of_powers(powers, lots))
        self.assertEqual(by_trees(web), rows)
        for x, y in POINTS:
            told = oracle.value(lots, x, y)
            self.assertEqual(value(web, x, y), told)
            self.assertEqual(oracle.table_at(rows, x, y), told)
        return lots

    def test_tiny_webs(self):
        for web in tiny_webs()[::2]:
            self.check_table(web)

    def test_middle_webs(self):
        for web in middle_webs():
            self.check_table(web)

    def test_big_webs(self):
        self.check_table(BIG)
        self.check_table(BIG_MIXED)

    def test_order_of_ties_does_not_matter(self):
        for web in [*few_webs(), BIG_MIXED]:
            for ties in (web.ties[::-1], web.ties[2:] + web.ties[:2], tuple(sorted(web.ties))):
                other = Web(web.places, ties)
                self.assertEqual(table(other), table(web))
                self.assertEqual(by_trees(other), table(web))
                self.assertEqual(lot_counts(other), lot_counts(web))

    def test_cut_and_shut_webs_add_up(self):
        for index in range(len(HOUSE)):
            for x, y in POINTS[:6]:
                parts = [value(cut(HOUSE, index), x, y), value(shut(HOUSE, index), x, y)]
                self.assertEqual(value(HOUSE, x, y)[0], sum(part[0] for part in parts))

    def test_what_the_values_count(self):
        for web in [*tiny_webs()[::4], *few_webs()]:
            lots = oracle.Lots(web)
            woods = [lot for lot in lots.lots if lots.is_wood(lot)]
            holds = [lot for lot in lots.lots if lots.is_hold(lot)]
            self.assertEqual(value(web, (1, 1), (1, 1)), (count_trees(web), 1))
            self.assertEqual(value(web, (2, 1), (1, 1)), (len(woods), 1))
            self.assertEqual(value(web, (1, 1), (2, 1)), (len(holds), 1))
            self.assertEqual(value(web, (2, 1), (2, 1)), (len(lots.lots), 1))

    def test_by_hand(self):
        self.assertEqual(lot_counts(web=HOUSE), ((5, 4, 1), (4, 1, 0), (1, 0, 0)))
        self.assertEqual(table(web=HOUSE), ((0, 1, 1), (1, 1, 0), (1, 0, 0)))
        self.assertEqual(by_trees(web=HOUSE), ((0, 1, 1), (1, 1, 0), (1, 0, 0)))
        for web in (LONE, NO_TIES):
            self.assertEqual((lot_counts(web), table(web), by_trees(web)), (((1,),),) * 3)
            self.assertEqual(value(web, (0, 1), (-5, 3)), (1, 1))
        self.assertEqual(table(LONE_LOOPS), ((0, 0, 0, 1),))
        self.assertEqual(lot_counts(LONE_LOOPS), ((1, 3, 3, 1),))
        self.assertEqual(table(RING_OF_TWO), ((0, 1), (1, 0)))
        self.assertEqual(table(Web("abc", ("ab", "bc"))), ((0,), (0,), (1,)))
        self.assertEqual(value(LONE_LOOPS, (1, 3), (-2, 3)), (-8, 27))
        self.assertEqual(value(x=(1, 2), y=(1, 2), web=RING_OF_TWO), (1, 1))
        self.assertEqual(value(RING_OF_TWO, (1, 6), (1, 6)), (1, 3))
        self.assertEqual(value(RING_OF_TWO, (1, 6), (-1, 6)), (0, 1))
        self.assertEqual(value(TWO_PARTS, (1, 1), (0, 1)), (0, 1))


class EarlyAndLate(Case):
    def test_as_the_document_tells(self):
        for web in [*tiny_webs()[::3], *middle_webs()[::2]]:
            lots = oracle.Lots(web)
            counts = {}
            for tree in all_trees(web):
                first, last = early(web, tree), late(web, tree)
                self.assertEqual(first, oracle.early(lots, tree))
                self.assertEqual(last, oracle.late(lots, tree))
                counts[len(first), len(last)] = counts.get((len(first), len(last)), 0) + 1
            self.assertEqual(by_trees(web), oracle.rows_of_powers(counts, lots))

    def test_big_webs(self):
        for web in (BIG, BIG_MIXED):
            for tree in all_trees(web)[::7]:
                first = [index for index in tree if index < min(exchanges(web, tree, index), default=11)]
                rest = [index for index in range(11) if index not in tree]
                last = [index for index in rest if index < min(exchanges(web, tree, index), default=11)]
                self.assertEqual(early(web, tree), tuple(first))
                self.assertEqual(late(web, tree), tuple(last))

    def test_by_hand(self):
        self.assertEqual(early(HOUSE, (0, 2)), (0, 2))
        self.assertEqual(late(web=HOUSE, tree=(0, 2)), ())
        self.assertEqual(early(web=HOUSE, tree=(2, 3)), ())
        self.assertEqual(late(HOUSE, (2, 3)), (0, 1))
        self.assertEqual(late(HOUSE, (1, 3)), (0,))
        self.assertEqual(early(HOUSE, (1, 3)), ())
        self.assertEqual(late(LONE_LOOPS, ()), (0, 1, 2))
        self.assertEqual((early(LONE, ()), late(LONE, ())), ((), ()))


class Errors(Case):
    def test_of_a_web(self):
        for call in (lot_counts, table, by_trees):
            self.check_errors(call, [("web", HOUSE, wrong_webs())])

    def test_fractions(self):
        wrongs = wrong_fractions()
        rights = ((10 ** 6, 999), (-10 ** 6, 1), (0, 1), (1, 1000), (-999999, 1000))
        for right in rights:
            value(HOUSE, right, right)
        self.check_errors(value, [("web", HOUSE, wrong_webs()), ("x", (2, 3), wrongs), ("y", (-1, 1000), wrongs)])

    def test_trees(self):
        wrongs = wrong_trees(HOUSE, ((), (0,), (0, 1), (0, 2, 3), (0, 1, 2, 3)))
        for call in (early, late):
            self.check_errors(call, [("web", HOUSE, wrong_webs()), ("tree", (0, 3), wrongs)])

    def test_nothing_is_altered(self):
        for call in (lot_counts, table, by_trees):
            self.unaltered(call, BIG_MIXED)
        self.unaltered(value, HOUSE, (1, 3), (2, 5))
        self.unaltered(early, HOUSE, (1, 2))


if __name__ == "__main__":
    unittest.main()
