import unittest
from contextlib import ExitStack

import oracle
from cases import Case
from samples import (
    BIG, BIG_MIXED, CHAIN, HOUSE, LONE, LONE_LOOPS, NO_TIES, RING_OF_TWO, STRANGE, THREE, TWO_PARTS, WHEEL_AND_TWIG,
    Dice, Same, few_webs, tiny_webs, wrong_leanings, wrong_webs,
)
from webreckon.boards import Board, attempt
from webreckon.errors import Busy, InvalidDeeds, NothingToUndo, Refused
from webreckon.webs import Web

GREAT_WEBS = (BIG, BIG_MIXED, CHAIN, WHEEL_AND_TWIG)


class Stop(Exception):
    pass


def deeds_of(web):
    """All deeds of the web, right or refused."""
    deeds = [("flip", index) for index in range(len(web.ties))]
    deeds += [("ring", lot) for lot in oracle.all_lots(web)]
    return deeds + [("cut", herd) for herd in oracle.all_herds(web.places)]


def turned_lot(leanings, leaning, deed):
    """The lot that the deed turns, None if it is refused."""
    if deed[0] == "flip":
        return (deed[1],)
    if deed[0] == "ring":
        return deed[1] if deed[1] in leanings.rings_of_arrows(leaning) else None
    lot = leanings.lots.crossing(deed[1])
    leads = all(leanings.arrow(leaning, index)[0] in deed[1] for index in lot)
    return lot if lot and leads else None


class Boards(Case):
    def check(self, board, leaning, log, busy=False):
        self.assertEqual(board.leaning, leaning)
        self.assertIs(board.log.__class__, tuple)
        self.assertEqual(board.log, tuple(log))
        self.assertEqual(len(board), len(log))
        self.assertIs(board.busy, busy)
        self.assertIs(bool(board), len(log) > 0)


class Deeds(Boards):
    def check_deed(self, leanings, leaning, deed):
        web = leanings.web
        board = Board(web, leaning)
        lot = turned_lot(leanings, leaning, deed)
        if lot is None:
            self.raises(Refused, "value", deed, board.do, deed)
            self.check(board, leaning, ())
            return
        self.assertIsNone(board.do(deed))
        after = leanings.turned(leaning, lot)
        self.check(board, after, (deed,))
        self.assertIs(board.log[0], deed)
        self.assertIsNone(board.undo())
        self.check(board, leaning, ())

    def test_small_webs(self):
        dice = Dice(73)
        webs = [web for web in few_webs() if len(web.ties) < 6]
        for web in [*webs, THREE, HOUSE, RING_OF_TWO, *tiny_webs()[::30]]:
            leanings = oracle.Leanings(web)
            deeds = deeds_of(web)
            for leaning in leanings.all[::3]:
                for deed in deeds[dice.below(2)::2]:
                    self.check_deed(leanings, leaning, deed)

    def test_great_webs(self):
        """Each ring and each cut of arrows of some leanings; from deed to deed and all the way back."""
        dice = Dice(79)
        for web in GREAT_WEBS:
            lots = oracle.Lots(web)
            board = Board(web, "".join("+-"[dice.below(2)] for _ in web.ties))
            self.assertIs(board.web, web)
            seen = [board.leaning]
            rings = [("ring", lot) for lot in lots.rings()]
            cuts = [("cut", herd) for herd in oracle.all_herds(web.places)]
            for deed in [*rings, *cuts]:
                try:
                    board.do(deed)
                except Refused:
                    board.do(("flip", dice.below(len(web.ties))))
                seen.append(board.leaning)
                self.assertEqual(len(board), len(seen) - 1)
            self.assertTrue({"flip", "cut"} <= {deed[0] for deed in board.log})
            while board.log:
                self.assertEqual(board.leaning, seen.pop())
                board.undo()
            self.assertEqual(seen, [board.leaning])

    def test_by_hand(self):
        board = Board(web=HOUSE, leaning="+++-")
        board.do(deed=("ring", (0, 2, 3)))
        self.check(board, "-+-+", (("ring", (0, 2, 3)),))
        self.raises(Refused, "value", ("ring", (1, 2, 3)), board.do, ("ring", (1, 2, 3)))
        board.do(("flip", 1))
        self.check(board, "---+", (("ring", (0, 2, 3)), ("flip", 1)))
        self.raises(Refused, "value", ("cut", "a"), board.do, ("cut", "a"))
        self.raises(Refused, "value", ("cut", ""), board.do, ("cut", ""))
        self.raises(Refused, "value", ("cut", "abc"), board.do, ("cut", "abc"))
        self.raises(Refused, "value", ("ring", ()), board.do, ("ring", ()))
        board.do(("flip", 3))
        board.do(("cut", "bc"))
        self.assertEqual(board.leaning, "++-+")
        self.assertEqual(len(board), 4)
        loops = Board(LONE_LOOPS, "++-")
        loops.do(("ring", (2,)))
        loops.do(("flip", 0))
        self.assertEqual(loops.leaning, "-++")
        empty = Board(LONE, "")
        self.check(empty, "", ())
        self.raises(Refused, "value", ("cut", "h"), empty.do, ("cut", "h"))
        self.raises(InvalidDeeds, "index", 0, empty.do, ("flip", 0))

    def test_other_boards_and_the_web_stay(self):
        one, other = Board(HOUSE, "++++"), Board(HOUSE, "++++")
        one.do(("flip", 0))
        self.check(other, "++++", ())
        self.assertFalse(one == other)
        self.assertTrue(one != other and one == one)
        self.assertEqual(HOUSE.text(), "abc ab ab bc ac")


def wrong_deeds(web):
    many = len(web.ties)
    bads = [bad for bad in STRANGE] + [
        "flip", ("flip",), ("flip", 0, 0), ["flip", 0], ("flip", many), ("flip", -1), ("flip", True), ("flip", False),
        ("flip", None), ("flip", "0"), ("flip", (0,)), ("Flip", 0), ("flop", 0), (b"flip", 0), (0, "flip"),
        ("flip", 10 ** 59), (None, 0), (("flip",), 0), ({}, 0), ([], 0), ("", 0),
        ("ring", 0), ("ring", [0, 1]), ("ring", (1, 0)), ("ring", (0, 0)), ("ring", (0, many)), ("ring", (True,)),
        ("ring", "01"), ("ring", None), ("ring", tuple(range(many + 1))), ("ring", (0, 1), 1), ("ring", ((0, 1),)),
        ("cut", "ba"), ("cut", "aa"), ("cut", "ah"), ("cut", 0), ("cut", None), ("cut", ("a",)), ("cut", ["a"]),
        ("cut", b"a"), ("cut", " "), ("cut", "a "), ("cut", "A"), ("cut", "abca"), ("cut", "a", "b"), ("cut", True),
        ("cut", "x" * 4000), ("flop", "a"), ("Cut", "a"), ("cuts", ""), ("", "a"), ("rings", (0,)), (Same(), 0),
        (Same(), "a"), (Same(), ()), ("flip", Same()), ("ring", Same()), ("ring", (Same(),)), ("cut", Same()),
    ]
    return bads


class All(Boards):
    def test_all_are_done(self):
        board = Board(THREE, "+++")
        deeds = (("flip", 2), ("ring", (0, 1, 2)), ("flip", 0), ("flip", 0))
        self.assertIsNone(board.do_all(deeds=deeds))
        self.check(board, "--+", deeds)
        self.assertIsNone(board.do_all(()))
        self.check(board, "--+", deeds)
        for at in range(3, -1, -1):
            board.undo()
            self.check(board, ("++-", "--+", "+-+")[at - 1] if at else "+++", deeds[:at])
        self.raises(NothingToUndo, None, None, board.undo)

    def test_the_watch_is_told_of_each(self):
        board = Board(THREE, "+++")
        deeds = (("flip", 2), ("ring", (0, 1, 2)), ("flip", 0))
        seen = []

        def watch(told, index):
            self.assertIs(told, board)
            self.check(board, board.leaning, deeds[:index + 1], True)
            seen.append((index, board.leaning))
            return True
        self.assertIsNone(board.do_all(deeds, watch=watch))
        self.assertEqual(seen, [(0, "++-"), (1, "--+"), (2, "+-+")])
        self.check(board, "+-+", deeds)
        board.do_all((), watch=watch)
        self.assertEqual(len(seen), 3)
        board.do_all((("flip", 0),), watch=None)
        self.assertEqual(board.leaning, "--+")

    def test_an_error_at_each_index(self):
        right = (("flip", 2), ("ring", (0, 1, 2)), ("flip", 0))
        for ahead in ((), (("flip", 1), ("flip", 1))):
            for at in range(4):
                for bad in wrong_deeds(THREE):
                    self.check_all_back(ahead, right[:at] + (bad, None), InvalidDeeds, "index", at)
                for bad in (("ring", ()), ("ring", (0, 1)), ("cut", ""), ("cut", "abc")):
                    self.check_all_back(ahead, right[:at] + (bad, None), Refused, "value", bad)

    def check_all_back(self, ahead, deeds, error, attribute, worth):
        board = Board(THREE, "+++")
        board.do_all(ahead)
        seen = []
        self.raises(error, attribute, worth, board.do_all, deeds)
        self.check(board, "+++", ahead)
        self.raises(error, attribute, worth, board.do_all, deeds, watch=lambda told, index: seen.append(index))
        self.assertEqual(seen, list(range(len(deeds) - 2)))
        self.check(board, "+++", ahead)

    def test_a_wrong_deed_behind_is_not_looked_at_ahead_of_its_turn(self):
        board = Board(THREE, "+++")
        self.raises(Refused, "value", ("cut", "a"), board.do_all, (("flip", 2), ("flip", 0), ("cut", "a"), None))
        self.raises(InvalidDeeds, "index", 1, board.do_all, (("flip", 2), None, ("cut", "a")))
        self.check(board, "+++", ())

    def test_errors_of_the_watch(self):
        deeds = (("flip", 2), ("ring", (0, 1, 2)), ("flip", 0))
        for error in (Stop, KeyboardInterrupt, GeneratorExit, SystemExit, ValueError, Busy, StopIteration):
            for at in range(3):
                board = Board(THREE, "+-+")
                board.do(("flip", 1))
                raised = error()

                def watch(told, index):
                    if index == at:
                        raise raised
                with self.assertRaises(error) as caught:
                    board.do_all(deeds, watch=watch)
                self.assertIs(caught.exception, raised)
                self.check(board, "+++", (("flip", 1),))
                board.do_all((("flip", 2),))
                self.check(board, "++-", (("flip", 1), ("flip", 2)))

    def test_busy(self):
        board = Board(THREE, "+++")
        held = board.trial()
        told = []

        def watch(_, index):
            for call, args in ((board.do, (("flip", 0),)), (board.do, (None,)), (board.do_all, ((),)),
                               (board.do_all, (None,)), (board.undo, ()), (board.trial, ()),
                               (attempt, (board, len))):
                self.raises(Busy, None, None, call, *args)
            with held as there:
                self.assertIs(there, board)
                self.raises(Busy, None, None, board.do, ("flip", 0))
                with held:
                    self.check(board, board.leaning, board.log, True)
            told.append((index, board.leaning, board.log))
        board.do_all((("flip", 0), ("flip", 1)), watch=watch)
        self.assertEqual(told, [(0, "-++", (("flip", 0),)), (1, "--+", (("flip", 0), ("flip", 1)))])
        self.check(board, "--+", (("flip", 0), ("flip", 1)))
        board.do(("flip", 2))
        other = Board(THREE, "+++")
        board.do_all((("flip", 0),), watch=lambda told, index: other.do(("flip", 1)))
        self.assertEqual(other.leaning, "+-+")

    def test_busy_that_goes_on_takes_all_back(self):
        board = Board(THREE, "+++")
        self.raises(Busy, None, None, board.do_all, (("flip", 0), ("flip", 1)), watch=lambda told, at: told.undo())
        self.check(board, "+++", ())


class Trials(Boards):
    def test_ends_well(self):
        board = Board(THREE, "+++")
        board.do(("flip", 0))
        with board.trial() as there:
            self.assertIs(there, board)
            board.do(("flip", 1))
            board.do_all((("flip", 2), ("flip", 2)))
            self.assertEqual(len(board), 4)
        self.check(board, "-++", (("flip", 0),))
        with board.trial():
            board.undo()
            self.check(board, "+++", ())
            self.raises(NothingToUndo, None, None, board.undo)
            board.do(("flip", 2))
        self.check(board, "-++", (("flip", 0),))
        board.undo()
        self.check(board, "+++", ())

    def test_ends_by_an_error(self):
        board = Board(THREE, "+++")
        board.do(("flip", 0))
        for error in (Stop, KeyboardInterrupt, ValueError):
            raised = error()
            with self.assertRaises(error) as caught:
                with board.trial():
                    board.undo()
                    board.do(("flip", 2))
                    raise raised
            self.assertIs(caught.exception, raised)
            self.check(board, "-++", (("flip", 0),))

    def test_ends_by_leaving(self):
        board = Board(THREE, "+++")

        def rows():
            for index in range(3):
                with board.trial():
                    board.do(("flip", index))
                    if index == 1:
                        return board.leaning
        self.assertEqual(rows(), "+-+")
        self.check(board, "+++", ())

    def test_one_within_another(self):
        board = Board(THREE, "+++")
        with board.trial():
            board.do(("flip", 0))
            with board.trial():
                board.do(("flip", 1))
                board.undo()
                board.undo()
                board.do(("flip", 2))
                self.check(board, "++-", (("flip", 2),))
            self.check(board, "-++", (("flip", 0),))
            with board.trial():
                board.do(("flip", 2))
            self.check(board, "-++", (("flip", 0),))
        self.check(board, "+++", ())

    def test_the_same_one_again(self):
        board = Board(THREE, "+++")
        held = board.trial()
        board.do(("flip", 0))
        for _ in range(2):
            with held:
                board.do(("flip", 1))
                with held as there:
                    self.assertIs(there, board)
                    board.undo()
                    board.undo()
                    board.do(("flip", 2))
                    with held:
                        board.do(("flip", 2))
                        self.check(board, "+++", (("flip", 2), ("flip", 2)))
                    self.check(board, "++-", (("flip", 2),))
                self.check(board, "--+", (("flip", 0), ("flip", 1)))
            self.check(board, "-++", (("flip", 0),))

    def test_the_same_one_again_with_errors(self):
        board = Board(THREE, "+++")
        held = board.trial()
        with self.assertRaises(Stop):
            with held:
                board.do(("flip", 0))
                with self.assertRaises(Busy):
                    with held:
                        board.undo()
                        raise Busy()
                self.check(board, "-++", (("flip", 0),))
                with ExitStack() as stack:
                    stack.enter_context(held)
                    board.undo()
                    stack.enter_context(held)
                    board.do(("flip", 1))
                self.check(board, "-++", (("flip", 0),))
                raise Stop()
        self.check(board, "+++", ())

    def test_around_a_failing_do_all(self):
        board = Board(THREE, "+++")
        with board.trial():
            board.do(("flip", 0))
            self.raises(InvalidDeeds, "index", 1, board.do_all, (("flip", 0), 5))
            self.check(board, "-++", (("flip", 0),))
        self.check(board, "+++", ())

    def test_attempt(self):
        board = Board(THREE, "+++")
        board.do(("flip", 0))
        told = []

        def act(there):
            self.assertIs(there, board)
            board.undo()
            board.do(("flip", 2))
            return told
        self.assertIs(attempt(board, act), told)
        self.assertIs(attempt(board=board, act=act), told)
        self.assertEqual(attempt(board, len), 1)
        self.check(board, "-++", (("flip", 0),))
        raised = Stop()

        def failing(there):
            there.undo()
            raise raised
        with self.assertRaises(Stop) as caught:
            attempt(board, failing)
        self.assertIs(caught.exception, raised)
        self.check(board, "-++", (("flip", 0),))
        self.assertEqual(attempt(board, lambda there: attempt(there, lambda again: again.leaning)), "-++")

    def test_thrown_deeds(self):
        """Whatever is done within trials, each one ends as it began."""
        dice = Dice(89)
        for web in (BIG, BIG_MIXED, TWO_PARTS, HOUSE):
            board = Board(web, "+" * len(web.ties))
            self.wander(board, dice, 4)

    def wander(self, board, dice, depth):
        held = board.trial()
        for _ in range(6):
            at = dice.below(4)
            if at == 0 and len(board):
                board.undo()
            elif at == 1 and depth:
                kept = (board.leaning, board.log)
                with held if dice.below(2) else board.trial():
                    self.wander(board, dice, depth - 1)
                self.check(board, *kept)
            else:
                board.do(("flip", dice.below(len(board.web.ties))))


class Errors(Boards):
    def test_of_a_board(self):
        for web in (HOUSE, LONE, NO_TIES, BIG):
            self.check_errors(Board, [
                ("web", web, wrong_webs()), ("leaning", "-" * len(web.ties), wrong_leanings(web)),
            ])

    def test_of_a_deed(self):
        board = Board(HOUSE, "++++")
        for bad in wrong_deeds(HOUSE):
            self.raises(InvalidDeeds, "index", 0, board.do, bad)
            self.raises(InvalidDeeds, "index", 0, board.do, deed=bad)
        self.check(board, "++++", ())

    def test_of_no_tuple_of_deeds(self):
        board = Board(HOUSE, "++++")
        for bad in [bad for bad in STRANGE if not isinstance(bad, tuple)] + [[("flip", 0)], "flip", 0]:
            self.raises(InvalidDeeds, "index", None, board.do_all, bad)
            self.raises(InvalidDeeds, "index", None, board.do_all, deeds=bad, watch=len)
        self.raises(InvalidDeeds, "index", 0, board.do_all, ("flip", 0))
        with self.assertRaises(TypeError):
            board.do_all((), None)
        self.check(board, "++++", ())

    def test_nothing_to_undo(self):
        board = Board(Web("ab", ()), "")
        self.raises(NothingToUndo, None, None, board.undo)
        self.check(board, "", ())


if __name__ == "__main__":
    unittest.main()
