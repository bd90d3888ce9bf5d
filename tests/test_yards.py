import unittest

import oracle_heaps as told
from cases import Case
from samples import (
    APART, APART_AND_LOOPED, BIG, CHAIN, HOUSE, LONE, LONE_LOOPS, LOOPED, NO_TIES, PATH, RING_OF_TWO, STAR, THREE,
    TIES_OF_TWO, WHEEL_AND_TWIG, Dice, heap_webs, tiny_heap_webs, wrong_heaps, wrong_places, STRANGE,
)
from webreckon.errors import (
    Apart, InvalidHeap, InvalidNumber, Looped, NothingToUndo, NotAWeb, Refused, TooMany, UnknownPlace,
)
from webreckon.heaps import behind
from webreckon.lasting import settled
from webreckon.yards import Yard

MOST = 10 ** 6
GREAT_WEBS = (BIG, CHAIN, WHEEL_AND_TWIG)


class Stop(Exception):
    pass


def thrown_heap(web, dice, low, high):
    return tuple(low + dice.below(high - low + 1) for _ in web.places)


class Yards(Case):
    def check(self, yard, heap, log):
        self.assertIs(yard.heap.__class__, tuple)
        self.assertEqual(yard.heap, heap)
        self.assertIs(yard.log.__class__, tuple)
        self.assertEqual(yard.log, tuple(log))
        self.assertEqual(yard.changes, len(log))
        self.assertIs(yard.changes.__class__, int)


class Deeds(Yards):
    def check_gives(self, web, heap):
        for place in web.places:
            yard = Yard(web, heap)
            self.assertIsNone(yard.give(place))
            self.check(yard, told.given(web, heap, place), (("give", place),))
            self.assertIsNone(yard.take(place))
            self.check(yard, heap, (("give", place), ("take", place)))
            yard.take(place)
            self.check(yard, told.given(web, heap, place, -1), (("give", place), ("take", place), ("take", place)))
            for many in (2, 1, 0):
                self.assertIsNone(yard.undo())
                self.assertEqual(yard.changes, many)
            self.check(yard, heap, ())

    def check_settling(self, web, heap):
        for bank in web.places:
            yard = Yard(web, heap)
            if min([number for place, number in zip(web.places, heap) if place != bank], default=0) < 0:
                self.raises(Refused, "value", heap, yard.settle, bank)
                self.check(yard, heap, ())
                continue
            self.assertIsNone(yard.settle(bank))
            self.check(yard, settled(web, heap, bank)[0], (("settle", bank),))
            self.check_by_giving(web, heap, bank, yard.heap)
            yard.undo()
            self.check(yard, heap, ())

    def check_by_giving(self, web, heap, bank, wanted):
        """Place after place, the last one that must give ahead."""
        yard = Yard(web, heap)
        while True:
            must = [place for place, number in zip(web.places, yard.heap)
                    if place != bank and number >= len(told.ties_at(web, place))]
            if not must:
                break
            yard.give(must[-1])
        self.assertEqual(yard.heap, wanted)

    def test_webs(self):
        dice = Dice(97)
        webs = [web for web in [*tiny_heap_webs()[::7], *heap_webs(), *GREAT_WEBS] if len(web.places) > 1]
        for web in webs:
            for low, high in ((-5, 5), (0, 4), (0, 9), (-MOST + 99, MOST - 99)):
                self.check_gives(web, thrown_heap(web, dice, low, high))
            for low, high in ((0, 3), (0, 6), (-1, 3)):
                self.check_settling(web, thrown_heap(web, dice, low, high))

    def test_put(self):
        yard = Yard(HOUSE, (1, -2, 3))
        self.assertIsNone(yard.put("b", 5))
        self.check(yard, (1, 3, 3), (("put", "b", 5),))
        self.assertIsNone(yard.put(place="c", number=-MOST))
        self.check(yard, (1, 3, 3 - MOST), (("put", "b", 5), ("put", "c", -MOST)))
        yard.put("a", 0)
        self.check(yard, (1, 3, 3 - MOST), (("put", "b", 5), ("put", "c", -MOST), ("put", "a", 0)))
        yard.undo()
        yard.undo()
        self.check(yard, (1, 3, 3), (("put", "b", 5),))
        yard.put("c", MOST - 3)
        self.assertEqual(yard.heap, (1, 3, MOST))

    def test_settle_again_is_a_deed(self):
        yard = Yard(THREE, (0, 1, 1))
        yard.settle("a")
        yard.settle("a")
        self.check(yard, (0, 1, 1), (("settle", "a"), ("settle", "a")))
        yard.undo()
        self.check(yard, (0, 1, 1), (("settle", "a"),))

    def test_one_place(self):
        yard = Yard(LONE, (-7,))
        yard.give("h")
        yard.take("h")
        yard.settle("h")
        yard.put("h", 9)
        self.check(yard, (2,), (("give", "h"), ("take", "h"), ("settle", "h"), ("put", "h", 9)))

    def test_by_hand(self):
        yard = Yard(web=THREE, heap=(0, 2, 2))
        self.assertIs(yard.web, THREE)
        yard.settle(bank="a")
        self.check(yard, (2, 1, 1), (("settle", "a"),))
        yard.give(place="a")
        yard.take(place="c")
        self.check(yard, (-1, 1, 4), (("settle", "a"), ("give", "a"), ("take", "c")))
        self.raises(Refused, "value", (-1, 1, 4), yard.settle, "b")
        yard.settle("a")
        self.assertEqual(yard.heap, settled(THREE, (-1, 1, 4), "a")[0])
        other = Yard(THREE, (0, 2, 2))
        self.check(other, (0, 2, 2), ())
        self.assertFalse(yard == other)

    def test_all_the_way_back(self):
        dice = Dice(101)
        for web in GREAT_WEBS:
            yard = Yard(web, (3,) * 7)
            seen = []
            for _ in range(60):
                seen.append((yard.heap, yard.log))
                place = web.places[dice.below(7)]
                deed = (yard.give, yard.take, yard.settle, yard.put)[dice.below(4)]
                try:
                    deed(place, 20) if deed == yard.put else deed(place)
                except Refused:
                    yard.put(place, 40)
            self.assertEqual({deed[0] for deed in yard.log}, {"give", "take", "settle", "put"})
            while seen:
                yard.undo()
                self.check(yard, *seen.pop())
            self.raises(NothingToUndo, None, None, yard.undo)


class TooGreat(Yards):
    def test_gives(self):
        for web, heap, deed, place in (
            (THREE, (0, MOST - 1, 0), "give", "a"), (THREE, (0, 1 - MOST, 0), "take", "a"),
            (THREE, (2 - MOST, 0, 0), "give", "a"), (THREE, (MOST - 2, 0, 0), "take", "a"),
        ):
            yard = Yard(web, heap)
            getattr(yard, deed)(place)
            after = yard.heap
            self.assertEqual(max(map(abs, after)), MOST)
            self.raises(TooMany, "limit", MOST, getattr(yard, deed), place)
            self.check(yard, after, ((deed, place),))

    def test_put(self):
        yard = Yard(RING_OF_TWO, (MOST - 5, -MOST + 5))
        self.raises(TooMany, "limit", MOST, yard.put, "c", 6)
        self.raises(TooMany, "limit", MOST, yard.put, "e", -6)
        self.raises(TooMany, "limit", MOST, yard.put, "c", MOST)
        self.raises(TooMany, "limit", MOST, yard.put, "e", -MOST)
        self.check(yard, (MOST - 5, -MOST + 5), ())
        yard.put("c", 5)
        yard.put("e", -5)
        self.assertEqual(yard.heap, (MOST, -MOST))
        yard.put("c", -MOST)
        yard.put("c", -MOST)
        self.assertEqual(yard.heap, (-MOST, -MOST))
        self.raises(TooMany, "limit", MOST, yard.put, "c", -1)

    def test_settling(self):
        yard = Yard(RING_OF_TWO, (MOST - 2, 3))
        yard.settle("c")
        self.check(yard, (MOST, 1), (("settle", "c"),))
        yard = Yard(RING_OF_TWO, (MOST - 1, 3))
        self.raises(TooMany, "limit", MOST, yard.settle, "c")
        self.check(yard, (MOST - 1, 3), ())
        yard = Yard(RING_OF_TWO, (MOST - 1, 1))
        yard.settle("c")
        self.check(yard, (MOST - 1, 1), (("settle", "c"),))
        yard = Yard(TIES_OF_TWO, (MOST, MOST))
        self.raises(TooMany, "limit", MOST, yard.settle, "b")
        yard = Yard(TIES_OF_TWO, (-MOST, MOST))
        yard.settle("b")
        self.assertEqual(yard.heap, (0, 0))
        yard = Yard(BIG, (-MOST,) + (MOST // 3,) * 6)
        yard.settle("a")
        self.assertEqual(sum(yard.heap), -MOST + 6 * (MOST // 3))
        self.raises(TooMany, "limit", MOST, Yard(BIG, (MOST,) * 7).settle, "d")

    def test_refused_ahead_of_too_many(self):
        yard = Yard(THREE, (MOST, MOST, -1))
        self.raises(Refused, "value", (MOST, MOST, -1), yard.settle, "a")
        self.raises(TooMany, "limit", MOST, yard.settle, "c")


class Trials(Yards):
    def test_ends_well(self):
        yard = Yard(THREE, (0, 2, 2))
        yard.give("b")
        with yard.trial() as there:
            self.assertIs(there, yard)
            yard.undo()
            self.check(yard, (0, 2, 2), ())
            self.raises(NothingToUndo, None, None, yard.undo)
            yard.settle("a")
            yard.put("c", 7)
        self.check(yard, (1, 0, 3), (("give", "b"),))
        yard.undo()
        self.check(yard, (0, 2, 2), ())

    def test_ends_by_an_error(self):
        for error in (Stop, KeyboardInterrupt, TooMany):
            yard = Yard(THREE, (0, 2, 2))
            yard.give("b")
            raised = error(5) if error is TooMany else error()
            with self.assertRaises(error) as caught:
                with yard.trial():
                    yard.take("b")
                    raise raised
            self.assertIs(caught.exception, raised)
            self.check(yard, (1, 0, 3), (("give", "b"),))

    def test_one_within_another_and_the_same_again(self):
        yard = Yard(STAR, (0,) * 5)
        held = yard.trial()
        yard.put("a", 1)
        for _ in range(2):
            with held:
                yard.put("b", 2)
                with yard.trial():
                    yard.undo()
                    yard.undo()
                    with held as there:
                        self.assertIs(there, yard)
                        yard.put("c", 3)
                        self.check(yard, (0, 0, 3, 0, 0), (("put", "c", 3),))
                    self.check(yard, (0,) * 5, ())
                self.check(yard, (1, 2, 0, 0, 0), (("put", "a", 1), ("put", "b", 2)))
                with self.assertRaises(Stop):
                    with held:
                        yard.undo()
                        raise Stop()
                self.check(yard, (1, 2, 0, 0, 0), (("put", "a", 1), ("put", "b", 2)))
                yard.undo()
            self.check(yard, (1, 0, 0, 0, 0), (("put", "a", 1),))

    def test_tried(self):
        yard = Yard(PATH, (1, 2, 3, 4))
        yard.give("b")
        heap = yard.heap
        told_back = []

        def act(there):
            self.assertIs(there, yard)
            there.undo()
            there.put("b", 5)
            return told_back
        self.assertIs(yard.tried(act), told_back)
        self.assertIs(yard.tried(act=act), told_back)
        self.check(yard, heap, (("give", "b"),))
        self.assertEqual(yard.tried(lambda there: there.tried(lambda again: again.heap)), heap)
        raised = Stop()

        def failing(there):
            there.undo()
            raise raised
        with self.assertRaises(Stop) as caught:
            yard.tried(failing)
        self.assertIs(caught.exception, raised)
        self.check(yard, heap, (("give", "b"),))
        yard.undo()
        self.check(yard, (1, 2, 3, 4), ())


class Errors(Yards):
    def test_of_a_yard(self):
        for web in (HOUSE, LONE, BIG):
            self.check_heap_errors(Yard, web, lambda web: [("heap", (2,) * len(web.places), wrong_heaps(web))])
        for web, error in ((APART, Apart), (LOOPED, Looped), (APART_AND_LOOPED, Apart), (NO_TIES, Apart),
                           (LONE_LOOPS, Looped)):
            self.raises(error, None, None, Yard, web, (0,) * len(web.places))
            self.raises(InvalidHeap, "index", None, Yard, web, ())
        self.raises(NotAWeb, "value", None, Yard, None, None)

    def test_of_places(self):
        yard = Yard(HOUSE, (-1, -1, MOST))
        for bad, error, attribute, worth in wrong_places(HOUSE):
            for call in (yard.give, yard.take):
                self.raises(error, attribute, worth, call, bad)
                self.raises(error, attribute, worth, call, place=bad)
            self.raises(error, attribute, worth, yard.settle, bad)
            self.raises(error, attribute, worth, yard.settle, bank=bad)
            self.raises(error, attribute, worth, yard.put, bad, None)
            self.raises(error, attribute, worth, yard.put, number=1, place=bad)
        self.check(yard, (-1, -1, MOST), ())

    def test_of_numbers(self):
        yard = Yard(HOUSE, (0, 0, MOST))
        bads = [bad for bad in STRANGE if bad.__class__ is not int or abs(bad) > MOST]
        for bad in [*bads, MOST + 1, -MOST - 1, "1", (1,), [1]]:
            self.raises(InvalidNumber, "value", bad, yard.put, "c", bad)
            self.raises(InvalidNumber, "value", bad, yard.put, place="c", number=bad)
        self.check(yard, (0, 0, MOST), ())

    def test_errors_leave_all_as_it_was(self):
        yard = Yard(HOUSE, (0, 0, 0))
        yard.take("c")
        for _ in range(3):
            self.raises(UnknownPlace, "value", "d", yard.give, "d")
            self.raises(Refused, "value", yard.heap, yard.settle, "c")
            self.raises(TooMany, "limit", MOST, yard.put, "c", MOST)
            self.check(yard, behind(HOUSE, (0, 0, 0), (0, 0, -1)), (("take", "c"),))


if __name__ == "__main__":
    unittest.main()
