import unittest
from contextlib import ExitStack

import oracle_checker as slow
import oracle_doubts
import oracle_heaps
import oracle_rows
import oracle_ways
from cases import Case
from samples import (
    APART, BIG, BIG_MIXED, CHAIN, FULL, HOUSE, LONE, LONE_LOOPS, NO_TIES, PATH, RING_OF_TWO, STRANGE, THREE,
    TIES_OF_TWO, TWO_PARTS, WHEEL_AND_TWIG, Dice, Same, thrown_webs, wrong_webs,
)
from webreckon.errors import (
    Broken, InUse, InvalidIndex, InvalidName, InvalidWish, NotAWeb, NothingToUndo, UnknownName,
)
from webreckon.samples import wheel
from webreckon.shelves import Shelf
from webreckon.webs import Web, cut, renamed, shut

GREAT_WEBS = (BIG, BIG_MIXED, CHAIN, WHEEL_AND_TWIG)


class Stop(Exception):
    pass


def holds(webs, wish):
    """By slow looks at small webs."""
    word, name = wish[:2]
    if not isinstance(name, str) or name not in webs:
        return False
    web = webs[name]
    lots = slow.lots_of(web.text())
    if word == "whole":
        return len(lots.pieces[lots.all]) == 1
    if word == "trees":
        return len(lots.trees()) >= wish[2]
    if word == "ringless":
        told = slow.leanings_of(web.text())
        return sum(map(told.is_ringless, told.all)) >= wish[2]
    if word == "dyed":
        return len(oracle_rows.dyes(web, min(7, wish[2]))) > 0
    if word == "pull":
        if not set(wish[2:4]) <= set(web.places):
            return False
        part = oracle_heaps.pull(web, *wish[2:4])
        return part is not None and part[0] * wish[4][1] <= wish[4][0] * part[1]
    if word == "joined":
        widths = oracle_ways.herds_from_first(web).values()
        return len(widths) > 0 and min(widths) >= wish[2]
    if not isinstance(wish[2], str) or wish[2] not in webs:
        return False
    return slow.is_true((word, web.text(), webs[wish[2]].text()))


class Shelves(Case):
    def check(self, shelf, webs, wishes, changes):
        self.assertEqual(shelf.names, tuple(sorted(webs)))
        self.assertIs(shelf.names.__class__, tuple)
        self.assertEqual(len(shelf), len(webs))
        self.assertIs(bool(shelf), len(webs) > 0)
        self.assertIs(shelf.wishes.__class__, tuple)
        self.assertEqual(len(shelf.wishes), len(wishes))
        self.assertTrue(all(one is two for one, two in zip(shelf.wishes, wishes)))
        self.assertEqual(shelf.changes, changes)
        self.assertIs(shelf.changes.__class__, int)
        for name, web in webs.items():
            self.assertIn(name, shelf)
            self.assertEqual(shelf[name], web)
        for name in ("zz", "aaaaaaaa", "", "A"):
            if name not in webs:
                self.assertNotIn(name, shelf)
                self.raises(UnknownName, "value", name, shelf.__getitem__, name)

    def filled(self, webs, wishes=()):
        shelf = Shelf()
        for name, web in webs.items():
            shelf[name] = web
        for wish in wishes:
            shelf.wish(wish)
        return shelf

    def put(self, shelf, name, web):
        shelf[name] = web


class Webs(Shelves):
    def test_empty(self):
        shelf = Shelf()
        self.check(shelf, {}, (), 0)
        self.raises(NothingToUndo, None, None, shelf.undo)
        self.assertFalse(Shelf() == Shelf())

    def test_webs_under_names(self):
        shelf = Shelf()
        webs = {}
        for many, (name, web) in enumerate((("m", HOUSE), ("b", THREE), ("zzzzzzzz", BIG), ("b", LONE), ("m", HOUSE)), 1):
            self.assertIsNone(shelf.__setitem__(name, web))
            webs[name] = web
            self.check(shelf, webs, (), many)
            self.assertIs(shelf[name], web)
        self.assertEqual(shelf.names, ("b", "m", "zzzzzzzz"))
        self.assertIsNone(shelf.drop(name="b"))
        del webs["b"]
        self.check(shelf, webs, (), 6)
        self.assertIsNone(shelf.cut(name="m", index=0))
        webs["m"] = cut(HOUSE, 0)
        self.check(shelf, webs, (), 7)
        self.assertIsNone(shelf.shut("m", 0))
        webs["m"] = shut(cut(HOUSE, 0), 0)
        self.check(shelf, webs, (), 8)
        shelf.cut("zzzzzzzz", 10)
        webs["zzzzzzzz"] = cut(BIG, 10)
        self.check(shelf, webs, (), 9)

    def test_in_and_items_with_any_value(self):
        shelf = self.filled({"a": HOUSE, "b": THREE, "ab": LONE})
        for value in (*STRANGE, 0, 1, "", "A", "c", "ba", "a ", ("a",), ["a"], b"a", {"a"}, HOUSE, "abc", "a" * 9, Same()):
            self.assertIs(value in shelf, False)
            self.raises(UnknownName, "value", value, lambda: shelf[value])
        for value in ("a", "b", "ab"):
            self.assertIs(value in shelf, True)
        with self.assertRaises(TypeError):
            iter(shelf)

    def test_names(self):
        shelf = self.filled({"a": HOUSE})
        for name in (*STRANGE, 0, 1, "", "A", "a1", "aaaaaaaaa", "a b", " ", "a ", "\u00e4", "a-b", ("a",), ["a"], b"a", "aB"):
            self.raises(InvalidName, "value", name, self.put, shelf, name, THREE)
            self.raises(InvalidName, "value", name, self.put, shelf, name, None)
        for name in ("a", "z", "abcdefgh", "zzzzzzzz", "true", "none"):
            for bad, error, attribute, worth in wrong_webs():
                self.raises(error, attribute, worth, self.put, shelf, name, bad)
        self.check(shelf, {"a": HOUSE}, (), 1)
        for many, name in enumerate(("z", "abcdefgh", "zzzzzzzz", "q"), 2):
            shelf[name] = THREE
            self.assertEqual(len(shelf), many)

    def test_unknown_names(self):
        shelf = self.filled({"a": HOUSE})
        for name in (*STRANGE, 0, "", "b", "A", "aa", ("a",), ["a"], b"a"):
            self.raises(UnknownName, "value", name, shelf.drop, name)
            self.raises(UnknownName, "value", name, shelf.drop, name=name)
            for call in (shelf.cut, shelf.shut):
                self.raises(UnknownName, "value", name, call, name, 0)
                self.raises(UnknownName, "value", name, call, name=name, index=None)
        for index in (*STRANGE, 4, -1, "0", (0,)):
            for call in (shelf.cut, shelf.shut):
                self.raises(InvalidIndex, "value", index, call, "a", index)
                self.raises(InvalidIndex, "value", index, call, index=index, name="a")
        self.check(shelf, {"a": HOUSE}, (), 1)


WISHES = (
    ("whole", "x"), ("trees", "x", 5), ("ringless", "x", 6), ("dyed", "x", 3), ("pull", "x", "a", "b", (2, 5)),
    ("joined", "x", 2), ("like", "x", "y"), ("unlike", "x", "z"),
)


class Wishes(Shelves):
    def test_each_kind_just_holding_and_just_not(self):
        webs = {"x": HOUSE, "y": renamed(HOUSE, "hfa"), "z": THREE, "one": LONE, "apart": APART, "loops": LONE_LOOPS}
        shelf = self.filled(webs)
        wishes = []
        for right, wrong in (
            (("whole", "x"), ("whole", "apart")), (("trees", "x", 5), ("trees", "x", 6)),
            (("ringless", "x", 6), ("ringless", "x", 7)), (("dyed", "x", 3), ("dyed", "x", 2)),
            (("pull", "x", "a", "b", (2, 5)), ("pull", "x", "a", "b", (399, 1000))),
            (("pull", "x", "b", "a", (401, 1000)), ("pull", "x", "a", "b", (0, 1))),
            (("joined", "x", 2), ("joined", "x", 3)), (("like", "x", "y"), ("like", "x", "z")),
            (("unlike", "x", "z"), ("unlike", "y", "x")), (("pull", "x", "c", "c", (0, 1)), ("pull", "x", "c", "c", (-1, 1000))),
            (("pull", "apart", "a", "b", (1, 2)), ("pull", "apart", "a", "c", (10 ** 6, 1))),
            (("joined", "apart", 0), ("joined", "apart", 1)), (("trees", "one", 1), ("joined", "one", 0)),
            (("trees", "one", 0), ("trees", "one", 1000)), (("dyed", "one", 1), ("dyed", "loops", 1000)),
            (("ringless", "loops", 0), ("ringless", "loops", 1)), (("whole", "one"), ("pull", "one", "a", "h", (1, 1))),
            (("pull", "one", "h", "h", (0, 1)), ("pull", "one", "a", "a", (1, 1))), (("like", "x", "x"), ("unlike", "x", "x")),
            (("dyed", "z", 1000), ("dyed", "z", 1)), (("ringless", "x", 0), ("ringless", "x", 1000)),
        ):
            self.raises(Broken, "index", len(wishes), shelf.wish, wrong)
            self.check(shelf, webs, wishes, 6 + len(wishes))
            self.assertIsNone(shelf.wish(wish=right))
            wishes.append(right)
            self.check(shelf, webs, wishes, 6 + len(wishes))

    def test_about_what_is_not_there(self):
        shelf = self.filled({"x": HOUSE})
        for value in (*STRANGE, "", "y", "X", "xx", 0, ["x"], ("x",), b"x", Same()):
            for wish in (("whole", value), ("trees", value, 0), ("ringless", value, 0), ("dyed", value, 1000),
                         ("pull", value, "a", "b", (10 ** 6, 1)), ("joined", value, 0), ("like", value, "x"),
                         ("like", "x", value), ("like", value, value), ("unlike", value, "x"), ("unlike", "x", value),
                         ("unlike", value, value)):
                self.raises(Broken, "index", 0, shelf.wish, wish)
        shelf.wish(("whole", "x"))
        self.raises(Broken, "index", 1, shelf.wish, ("unlike", "x", None))
        self.check(shelf, {"x": HOUSE}, shelf.wishes, 2)

    def test_wishes_of_the_wrong_shape(self):
        shelf = self.filled({"x": HOUSE})
        bads = [*STRANGE, (), "whole", ("whole",), ("whole", "x", 1), ["whole", "x"], ("Whole", "x"), (b"whole", "x"),
                (("whole",), "x"), ([], "x"), ({}, "x"), (None, "x"), ("holds", "x", 1), ("", "x"), ("joined_by", "x", 1),
                ("xyz",), ("x",), ("",), (Same(), "x"), (Same(), "x", 1), ("trees", "x", Same()), ("pull",)]
        for word, least in (("trees", 0), ("ringless", 0), ("joined", 0), ("dyed", 1)):
            bads += [(word, "x"), (word, "x", 1, 1), (word,), (word, 1, "x")]
            bads += [(word, "x", number) for number in (least - 1, 1001, -1, True, False, None, "1", (1,), 10 ** 59, -10 ** 59)]
            self.assertIsNone(shelf.tried(lambda there: there.wish((word, "x", 1 + 2 * least))))
        for part in ((2, 4), (1, 0), (0, 2), (1, -1), 1, None, "1/2", (1,), (1, 2, 3), [1, 2], (True, 1), (1, True),
                     (10 ** 6 + 1, 1), (1, 1001), (-10 ** 6 - 1, 1)):
            bads.append(("pull", "x", "a", "b", part))
        for letter in ("i", "A", "", "ab", None, 0, True, ("a",), ["a"], b"a", " "):
            bads += [("pull", "x", letter, "b", (1, 1)), ("pull", "x", "a", letter, (1, 1))]
        bads += [("pull", "x", "a", "b"), ("pull", "x", "a", "b", (1, 1), 1), ("pull", "x"), ("like", "x"), ("unlike", "x"),
                 ("like", "x", "x", "x"), ("unlike", "x", "x", "x"), ("pull", "x", "ab", (1, 1)), ("like",)]
        for bad in bads:
            self.raises(InvalidWish, "value", bad, shelf.wish, bad)
            self.raises(InvalidWish, "value", bad, shelf.wish, wish=bad)
        self.check(shelf, {"x": HOUSE}, (), 1)
        # These have the shape of wishes.
        for wish in (("trees", "x", 1000), ("dyed", "x", 1), ("joined", "x", 1000), ("pull", "x", "h", "a", (-10 ** 6, 999)),
                     ("pull", "x", "a", "g", (10 ** 6, 1)), ("ringless", None, 0)):
            self.raises(Broken, "index", 0, shelf.wish, wish)

    def test_broken_by_webs(self):
        """The first wish that would not hold, whatever changes."""
        webs = {"x": HOUSE, "y": renamed(HOUSE, "hfa"), "z": THREE}
        for first in range(len(WISHES)):
            wishes = WISHES[first:] + WISHES[:first]
            shelf = self.filled(webs, wishes)
            after = [NO_TIES, LONE, LONE_LOOPS, THREE, APART, RING_OF_TWO, TIES_OF_TWO, FULL, wheel(3), HOUSE, webs["y"],
                     Web("abc", ("ab", "ab", "ab", "bc", "ac")), Web("abc", ("ab", "ab", "bc", "ac", "aa"))]
            for name in webs:
                for web in after:
                    self.check_change(shelf, webs, wishes, {**webs, name: web}, self.put, shelf, name, web)
                for index in range(len(webs[name].ties)):
                    self.check_change(shelf, webs, wishes, {**webs, name: cut(webs[name], index)}, shelf.cut, name, index)
                    self.check_change(shelf, webs, wishes, {**webs, name: shut(webs[name], index)}, shelf.shut, name, index)

    def check_change(self, shelf, webs, wishes, after, call, *args):
        """Refused with the first wish that would not hold, or done, and taken back again."""
        broken = [at for at, wish in enumerate(wishes) if not holds(after, wish)]
        many = shelf.changes
        if broken:
            self.raises(Broken, "index", broken[0], call, *args)
            self.check(shelf, webs, wishes, many)
        else:
            call(*args)
            self.check(shelf, after, wishes, many + 1)
            shelf.undo()
            self.check(shelf, webs, wishes, many)

    def test_broken_comes_last(self):
        shelf = self.filled({"x": HOUSE}, (("trees", "x", 5),))
        self.raises(InvalidName, "value", "X", self.put, shelf, "X", 5)
        self.raises(NotAWeb, "value", 5, self.put, shelf, "x", 5)
        self.raises(Broken, "index", 0, self.put, shelf, "x", LONE)
        for call in (shelf.cut, shelf.shut):
            self.raises(UnknownName, "value", "y", call, "y", 9)
            self.raises(InvalidIndex, "value", 4, call, "x", 4)
            self.raises(Broken, "index", 0, call, "x", 0)
        self.raises(InvalidWish, "value", ("trees", "x", -1), shelf.wish, ("trees", "x", -1))
        self.raises(Broken, "index", 1, shelf.wish, ("trees", "x", 6))
        self.raises(UnknownName, "value", "y", shelf.drop, "y")
        self.raises(InUse, "index", 0, shelf.drop, "x")
        self.check(shelf, {"x": HOUSE}, shelf.wishes, 2)

    def test_names_in_use(self):
        shelf = self.filled({"a": HOUSE, "b": THREE, "c": THREE, "d": LONE}, (
            ("pull", "b", "a", "c", (1, 1)), ("whole", "b"), ("like", "b", "c"), ("unlike", "a", "c"), ("whole", "a"),
        ))
        for name, index in (("a", 3), ("b", 0), ("c", 2)):
            self.raises(InUse, "index", index, shelf.drop, name)
        kept = shelf.wishes
        self.check(shelf, {"a": HOUSE, "b": THREE, "c": THREE, "d": LONE}, kept, 9)
        shelf.drop("d")
        self.check(shelf, {"a": HOUSE, "b": THREE, "c": THREE}, kept, 10)
        shelf.lift(3)
        self.raises(InUse, "index", 3, shelf.drop, "a")
        shelf.lift(3)
        shelf.drop("a")
        self.raises(InUse, "index", 2, shelf.drop, "c")
        self.check(shelf, {"b": THREE, "c": THREE}, kept[:3], 13)

    def test_lifting(self):
        shelf = self.filled({"x": HOUSE, "y": renamed(HOUSE, "hfa"), "z": THREE}, WISHES)
        for index in (*STRANGE, 8, -1, "0", (0,), 10 ** 59):
            self.raises(InvalidIndex, "value", index, shelf.lift, index)
            self.raises(InvalidIndex, "value", index, shelf.lift, index=index)
        left = list(WISHES)
        for index in (7, 0, 2, 2, 0):
            self.assertIsNone(shelf.lift(index))
            left.pop(index)
            self.assertEqual(shelf.wishes, tuple(left))
        shelf.wish(WISHES[0])
        shelf.wish(WISHES[0])
        self.assertEqual(shelf.wishes, (*left, WISHES[0], WISHES[0]))
        shelf.lift(len(left))
        self.assertEqual(shelf.wishes, (*left, WISHES[0]))
        self.raises(InvalidIndex, "value", 0, Shelf().lift, 0)

    def test_more_webs(self):
        dice = Dice(197)
        webs = [*thrown_webs(199, 12, 5, 5), HOUSE, THREE, PATH, TWO_PARTS]
        for web in webs:
            shelf = self.filled({"x": web})
            for _ in range(12):
                number = dice.below(9)
                one, two = (web.places[dice.below(len(web.places))] for _ in range(2))
                wish = (("trees", "x", number), ("ringless", "x", number), ("dyed", "x", number % 4 + 1), ("whole", "x"),
                        ("joined", "x", number % 4), ("pull", "x", one, two, (number, 1)))[dice.below(6)]
                if holds({"x": web}, wish):
                    shelf.wish(wish)
                else:
                    self.raises(Broken, "index", len(shelf.wishes), shelf.wish, wish)

    def test_great_webs(self):
        for web in GREAT_WEBS:
            numbers = oracle_doubts.numbers(web)
            shelf = self.filled({"x": web, "y": renamed(web, "hgfedcb"), "z": Web(web.places, web.ties[::-1])})
            for word in ("trees", "ringless"):
                most = min(1000, numbers[word])
                shelf.wish((word, "x", most))
                if most < 1000:
                    self.raises(Broken, "index", len(shelf.wishes), shelf.wish, (word, "x", most + 1))
            shelf.wish(("like", "y", "z"))
            most = min(oracle_ways.herds_from_first(web).values())
            shelf.wish(("joined", "y", most))
            self.raises(Broken, "index", 4, shelf.wish, ("joined", "y", most + 1))
            self.raises(Broken, "index", 4, shelf.wish, ("unlike", "x", "y"))
            bridge = 0 if web is BIG else 10
            self.raises(Broken, "index", 2, shelf.cut, "y", bridge)


class Back(Shelves):
    def test_undo(self):
        shelf = Shelf()
        seen = []

        def done(call, *args):
            seen.append(({name: shelf[name] for name in shelf.names}, shelf.wishes))
            call(*args)
            self.assertEqual(shelf.changes, len(seen))
        done(self.put, shelf, "x", HOUSE)
        done(self.put, shelf, "y", THREE)
        done(shelf.wish, ("trees", "x", 3))
        done(self.put, shelf, "y", LONE)
        done(shelf.cut, "x", 0)
        done(shelf.wish, ("unlike", "x", "y"))
        done(self.put, shelf, "y", LONE)
        done(shelf.lift, 0)
        done(shelf.shut, "x", 2)
        done(shelf.lift, 0)
        done(shelf.drop, "y")
        while seen:
            self.assertIsNone(shelf.undo())
            webs, wishes = seen.pop()
            self.check(shelf, webs, wishes, len(seen))
        self.raises(NothingToUndo, None, None, shelf.undo)

    def state(self, shelf):
        return {name: shelf[name] for name in shelf.names}, shelf.wishes, shelf.changes

    def test_trials(self):
        shelf = self.filled({"x": HOUSE}, (("trees", "x", 3),))
        kept = self.state(shelf)
        with shelf.trial() as there:
            self.assertIs(there, shelf)
            shelf.undo()
            shelf["x"] = LONE
            shelf["y"] = THREE
            shelf.wish(("whole", "y"))
        self.check(shelf, *kept)
        for error in (Stop, KeyboardInterrupt, Broken):
            raised = error(0) if error is Broken else error()
            with self.assertRaises(error) as caught:
                with shelf.trial():
                    shelf.lift(0)
                    shelf.drop("x")
                    self.check(shelf, {}, (), 4)
                    raise raised
            self.assertIs(caught.exception, raised)
            self.check(shelf, *kept)
        shelf.undo()
        shelf.undo()
        self.check(shelf, {}, (), 0)

    def test_one_within_another_and_the_same_again(self):
        shelf = self.filled({"x": HOUSE})
        held = shelf.trial()
        shelf["y"] = THREE
        outer = self.state(shelf)
        for _ in range(2):
            with held:
                shelf.cut("x", 0)
                inner = self.state(shelf)
                with shelf.trial():
                    shelf.undo()
                    shelf.undo()
                    with held as there:
                        self.assertIs(there, shelf)
                        shelf.drop("x")
                        self.check(shelf, {}, (), 2)
                    self.check(shelf, {"x": HOUSE}, (), 1)
                self.check(shelf, *inner)
                with self.assertRaises(Stop):
                    with held:
                        shelf.wish(("whole", "x"))
                        raise Stop()
                self.check(shelf, *inner)
                with ExitStack() as stack:
                    stack.enter_context(held)
                    shelf.undo()
                    stack.enter_context(held)
                    shelf.undo()
                self.check(shelf, *inner)
            self.check(shelf, *outer)

    def test_refused_within_a_trial(self):
        shelf = self.filled({"x": HOUSE}, (("trees", "x", 5),))
        kept = self.state(shelf)
        with shelf.trial():
            self.raises(Broken, "index", 0, shelf.cut, "x", 0)
            self.check(shelf, *kept)
            shelf.lift(0)
            shelf.cut("x", 0)
        self.check(shelf, *kept)
        self.raises(Broken, "index", 0, shelf.cut, "x", 0)

    def test_tried(self):
        shelf = self.filled({"x": HOUSE})
        kept = self.state(shelf)
        told = []

        def act(there):
            self.assertIs(there, shelf)
            there.undo()
            there["z"] = BIG
            return told
        self.assertIs(shelf.tried(act), told)
        self.assertIs(shelf.tried(act=act), told)
        self.check(shelf, *kept)
        self.assertEqual(shelf.tried(len), 1)
        self.assertEqual(shelf.tried(lambda there: there.tried(lambda again: again.names)), ("x",))
        raised = Stop()

        def failing(there):
            there.drop("x")
            raise raised
        with self.assertRaises(Stop) as caught:
            shelf.tried(failing)
        self.assertIs(caught.exception, raised)
        self.check(shelf, *kept)

    def test_what_was_told_stays(self):
        shelf = self.filled({"x": HOUSE})
        names, wishes = shelf.names, shelf.wishes
        shelf["y"] = THREE
        shelf.wish(("whole", "x"))
        self.assertEqual((names, wishes), (("x",), ()))
        other = Shelf()
        self.assertEqual(len(other), 0)
        self.raises(NotAWeb, "value", None, self.put, other, "x", None)

    def test_thrown_changes(self):
        """After each change all wishes hold; after each refusal all is as it was."""
        dice = Dice(211)
        shelf = Shelf()
        pool = [HOUSE, THREE, PATH, RING_OF_TWO, LONE, APART, FULL, wheel(3), renamed(THREE, "hcd")]
        for _ in range(300):
            before = self.state(shelf)
            name, other = (("x", "y", "z")[dice.below(3)] for _ in range(2))
            number = dice.below(4)
            change = (
                (self.put, shelf, name, pool[dice.below(len(pool))]), (shelf.drop, name), (shelf.lift, number),
                (shelf.cut, name, number), (shelf.shut, name, number), (shelf.wish, ("trees", name, number)),
                (shelf.wish, ("joined", name, number)), (shelf.wish, ("unlike", name, other)),
                (shelf.wish, ("like", name, other)), (shelf.wish, ("pull", name, "a", "b", ((0, 1), (1, 3), (2, 3), (1, 1))[number])),
            )[dice.below(10)]
            try:
                change[0](*change[1:])
                self.assertEqual(shelf.changes, before[2] + 1)
            except (Broken, InUse, UnknownName, InvalidIndex):
                self.check(shelf, *before)
            webs = self.state(shelf)[0]
            self.assertTrue(all(holds(webs, wish) for wish in shelf.wishes))
        self.assertGreater(shelf.changes, 60)


if __name__ == "__main__":
    unittest.main()
