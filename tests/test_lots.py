import unittest

import oracle
from cases import Case
from samples import (
    BIG, BIG_MIXED, HOUSE, LONE, LONE_LOOPS, NO_TIES, RING_OF_TWO, TWO_PARTS, few_webs, middle_webs, tiny_webs,
    wrong_lots, wrong_webs,
)
from webreckon import lots
from webreckon.webs import Web

YES_OR_NO = ("is_wood", "is_hold", "is_ring", "is_bond", "is_even", "is_two_sided")
OF_A_LOT = ("pieces", "rank", "spare") + YES_OR_NO


class AllLots(Case):
    def check_all_lots(self, web):
        told = oracle.Lots(web)
        for lot in told.lots:
            found = lots.pieces(web, lot)
            self.assertEqual(found, told.pieces[lot])
            self.assertIs(found.__class__, tuple)
            self.assertEqual(lots.rank(web, lot), told.rank(lot))
            self.assertEqual(lots.spare(web, lot), told.spare(lot))
            for name in YES_OR_NO:
                self.assertIs(getattr(lots, name)(web, lot), getattr(told, name)(lot), (web.text(), lot, name))
        return told

    def check_lists(self, web, told):
        self.assertEqual(lots.rings(web), told.rings(), web.text())
        self.assertEqual(lots.bonds(web), told.bonds(), web.text())
        self.assertEqual(lots.blocks(web), told.blocks(), web.text())
        self.assertEqual(lots.bridges(web), tuple(bond[0] for bond in told.bonds() if len(bond) == 1))

    def test_tiny_webs(self):
        for web in tiny_webs():
            self.check_lists(web, self.check_all_lots(web))

    def test_middle_webs(self):
        for web in middle_webs():
            self.check_lists(web, self.check_all_lots(web))

    def test_big_webs(self):
        for web in (BIG, BIG_MIXED):
            self.check_lists(web, self.check_all_lots(web))

    def test_even_lots_meet_two_sided_ones_evenly(self):
        for web in few_webs():
            all_lots = oracle.all_lots(web)
            sided = [set(lot) for lot in all_lots if lots.is_two_sided(web, lot)]
            for lot in all_lots:
                self.assertEqual(lots.is_even(web, lot), all(len(other & set(lot)) % 2 == 0 for other in sided))


class ByHand(Case):
    def test_pieces(self):
        self.assertEqual(lots.pieces(HOUSE, ()), ("a", "b", "c"))
        self.assertEqual(lots.pieces(HOUSE, (2,)), ("a", "bc"))
        self.assertEqual(lots.pieces(lot=(0, 1), web=HOUSE), ("ab", "c"))
        self.assertEqual(lots.pieces(HOUSE, (0, 1, 2, 3)), ("abc",))
        self.assertEqual(lots.pieces(TWO_PARTS, (0, 1, 2, 3, 4, 5)), ("ac", "bdg", "e"))
        self.assertEqual(lots.pieces(NO_TIES, ()), ("b", "d", "f", "g"))
        self.assertEqual(lots.pieces(LONE_LOOPS, (1,)), ("d",))
        self.assertEqual(lots.pieces(Web("abcd", ("cd", "ad")), (0, 1)), ("acd", "b"))

    def test_rank_and_spare(self):
        rows = [((), 0, 0), ((0,), 1, 0), ((0, 1), 1, 1), ((0, 2), 2, 0), ((0, 2, 3), 2, 1), ((0, 1, 2, 3), 2, 2)]
        for lot, rank, spare in rows:
            self.assertEqual((lots.rank(HOUSE, lot), lots.spare(HOUSE, lot)), (rank, spare))
            self.assertEqual((lots.rank(web=HOUSE, lot=lot), lots.spare(web=HOUSE, lot=lot)), (rank, spare))
        self.assertEqual((lots.rank(LONE_LOOPS, (0, 2)), lots.spare(LONE_LOOPS, (0, 2))), (0, 2))

    def test_the_empty_lot(self):
        for web in (HOUSE, LONE, NO_TIES, LONE_LOOPS):
            for name, worth in zip(YES_OR_NO, (True, len(web) in (0, 3), False, False, True, True)):
                self.assertIs(getattr(lots, name)(web, ()), worth, name)

    def test_lists(self):
        self.assertEqual(lots.rings(HOUSE), ((0, 1), (0, 2, 3), (1, 2, 3)))
        self.assertEqual(lots.bonds(HOUSE), ((0, 1, 2), (0, 1, 3), (2, 3)))
        self.assertEqual(lots.blocks(HOUSE), ((0, 1, 2, 3),))
        self.assertEqual(lots.bridges(HOUSE), ())
        self.assertEqual(lots.blocks(TWO_PARTS), ((0, 3), (1, 4, 5), (2,)))
        self.assertEqual(lots.bridges(TWO_PARTS), ())
        twigs = Web("abcdef", ("cd", "ab", "cc", "bc", "ab", "ef"))
        self.assertEqual(lots.bridges(twigs), (0, 3, 5))
        self.assertEqual(lots.blocks(web=twigs), ((0,), (1, 4), (2,), (3,), (5,)))
        self.assertEqual(lots.rings(LONE_LOOPS), ((0,), (1,), (2,)))
        self.assertEqual(lots.bonds(LONE_LOOPS), ())
        self.assertEqual(lots.blocks(LONE_LOOPS), ((0,), (1,), (2,)))
        self.assertEqual(lots.rings(RING_OF_TWO), ((0, 1),))
        self.assertEqual(lots.bonds(RING_OF_TWO), ((0, 1),))
        for name in ("rings", "bonds", "bridges", "blocks"):
            self.assertEqual(getattr(lots, name)(LONE), ())
            self.assertEqual(getattr(lots, name)(web=NO_TIES), ())

    def test_two_rings_at_one_place_are_two_blocks(self):
        web = Web("abcde", ("ab", "cd", "bc", "ce", "ac", "de", "cc"))
        self.assertEqual(lots.blocks(web), ((0, 2, 4), (1, 3, 5), (6,)))

    def test_nothing_is_altered(self):
        for name in OF_A_LOT:
            self.unaltered(getattr(lots, name), HOUSE, (0, 2, 3))
        for name in ("rings", "bonds", "bridges", "blocks"):
            self.unaltered(getattr(lots, name), BIG_MIXED)


class Errors(Case):
    def test_of_a_lot(self):
        for name in OF_A_LOT:
            for web in (HOUSE, LONE, LONE_LOOPS):
                call = getattr(lots, name)
                self.check_errors(call, [("web", web, wrong_webs()), ("lot", (), wrong_lots(web))])

    def test_of_a_web(self):
        for name in ("rings", "bonds", "bridges", "blocks"):
            self.check_errors(getattr(lots, name), [("web", HOUSE, wrong_webs())])


if __name__ == "__main__":
    unittest.main()
