import unittest
from unittest import mock

import oracle
from cases import Case
from samples import (
    BIG, BIG_MIXED, DEEP, HOUSE, LONE, LONE_LOOPS, NO_TIES, RING_OF_TWO, STRANGE, TWO_PARTS, few_webs, middle_webs,
    tiny_webs, wrong_indexes, wrong_places, wrong_webs,
)
from webreckon.errors import (
    InvalidLetters, InvalidPlaces, InvalidText, InvalidTies, Refused, TooMany, UnknownPlace,
)
from webreckon.webs import Web, beside, cut, is_whole, put, renamed, shut, without_loops

WRONG_PLACES = STRANGE + (
    "", "i", "abi", "A", "aB", "ba", "acb", "aa", "abb", "aab", "abcdefgh", "abcdefga", " ", "a b", "a ", " a", "1",
    ("a", "b"), ["a", "b"], b"ab", 1, 0, "a" * 7, "abc\n", "\u0430", ("abc",),
)
FAR_TIES = (
    None, True, False, 0, 1, 10 ** 59, -1, b"ab", ["a", "b"], ["ab"], ("a", "b"), ("ab",), {}, DEEP, "", "a", "ba",
    "abc", "ad", "da", "dd", "hh", "AB", "a b", " ab", "ab ", "cb", "ca", "a" * 4000, "12", "\n\n", Web, object(),
)


def same(web, places, ties):
    return web.__class__ is Web and web.places == places and web.ties == tuple(ties) and web.ties.__class__ is tuple


class MakingWebs(Case):
    def test_right_webs(self):
        rows = [
            ("a", ()), ("h", ("hh",)), ("abcdefg", ()), ("bcdefgh", ("bh", "bb", "gh")), ("abc", ("ab", "ab", "ab")),
            ("acg", ("cg", "aa", "ac", "aa", "gg")), ("ab", ("ab",) * 11), ("abcdefg", ("aa",) * 11),
        ]
        for places, ties in rows:
            for web in (Web(places, ties), Web(places=places, ties=ties), Web(ties=ties, places=places)):
                self.assertTrue(same(web, places, ties))

    def test_wrong_places(self):
        for bad in WRONG_PLACES:
            for ties in ((), ("ab",), None, ("zz",), 5):
                self.raises(InvalidPlaces, "value", bad, Web, bad, ties)
            self.raises(InvalidPlaces, "value", bad, Web, places=bad, ties=())

    def test_ties_that_are_no_tuple(self):
        bads = [bad for bad in STRANGE if not isinstance(bad, tuple)] + ["ab", ["ab"], [], {"ab": 1}, 0, {"ab"}]
        for bad in bads:
            self.raises(InvalidTies, "index", None, Web, "abc", bad)
            self.raises(InvalidTies, "index", None, Web, ties=bad, places="abc")

    def test_wrong_ties_tell_the_first_index(self):
        for bad in FAR_TIES:
            self.raises(InvalidTies, "index", 0, Web, "abc", (bad,))
            self.raises(InvalidTies, "index", 0, Web, "abc", (bad, "ab", bad))
            self.raises(InvalidTies, "index", 2, Web, "abc", ("ab", "cc", bad, "ab"))
            self.raises(InvalidTies, "index", 1, Web, "abc", ("bc", bad, "ba", None))
            self.raises(InvalidTies, "index", 10, Web, "abc", ("bc",) * 10 + (bad,))

    def test_the_twelfth_tie_is_wrong_in_its_turn(self):
        self.assertEqual(len(Web("ab", ("ab",) * 11)), 11)
        self.raises(InvalidTies, "index", 11, Web, "ab", ("ab",) * 12)
        self.raises(InvalidTies, "index", 11, Web, "ab", ("ab",) * 500)
        self.raises(InvalidTies, "index", 11, Web, "ab", ("ab",) * 11 + (None,))
        for at in range(11):
            ties = ("ab",) * at + ("ba",) + ("ab",) * 20
            self.raises(InvalidTies, "index", at, Web, "ab", ties)

    def test_a_letter_that_is_no_place(self):
        self.raises(InvalidTies, "index", 1, Web, "ace", ("ac", "ab"))
        self.raises(InvalidTies, "index", 0, Web, "ace", ("bb",))
        self.raises(InvalidTies, "index", 0, Web, "b", ("ab",))

    def test_length_and_truth(self):
        self.assertEqual([len(web) for web in (LONE, HOUSE, BIG, LONE_LOOPS)], [0, 4, 11, 3])
        self.assertFalse(bool(LONE))
        self.assertFalse(bool(NO_TIES))
        self.assertTrue(bool(HOUSE))
        self.assertTrue(bool(LONE_LOOPS))

    def test_equality(self):
        for web in few_webs():
            self.assertTrue(web == Web(web.places, web.ties))
            self.assertFalse(web != Web(web.places, web.ties))
        self.assertFalse(HOUSE == Web("abc", ("ab", "ab", "ac", "bc")))
        self.assertTrue(HOUSE != Web("abc", ("ab", "ab", "ac", "bc")))
        self.assertFalse(HOUSE == Web("abcd", HOUSE.ties))
        self.assertFalse(HOUSE == Web("abc", HOUSE.ties[:3]))
        self.assertFalse(Web("ab", ()) == Web("abc", ()))
        for other in (*STRANGE, "abc ab ab bc ac", ("abc", HOUSE.ties), HOUSE.ties, 4, mock.ANY.__class__):
            self.assertFalse(HOUSE == other)
            self.assertTrue(HOUSE != other)
            self.assertFalse(LONE == other)
        self.assertIs(HOUSE.__eq__("x"), False)


class Texts(Case):
    def test_text_of_a_web(self):
        rows = [
            (LONE, "h"), (LONE_LOOPS, "d dd dd dd"), (HOUSE, "abc ab ab bc ac"), (NO_TIES, "bdfg"),
            (Web("abc", ("ab", "ab", "ac", "bb")), "abc ab ab ac bb"),
            (Web("abcdefgh"[1:], ("bh",) * 11), "bcdefgh" + " bh" * 11),
        ]
        for web, text in rows:
            self.assertEqual(web.text(), text)
            self.assertEqual(str(web), text)
            self.assertEqual(Web.read(text), web)
            self.assertEqual(Web.read(text=text), web)
            self.assertIs(Web.read(text).__class__, Web)

    def test_there_and_back(self):
        for web in [*tiny_webs(), *middle_webs(), BIG, BIG_MIXED]:
            read = Web.read(web.text())
            self.assertTrue(same(read, web.places, web.ties))
            self.assertEqual(read.text(), " ".join([web.places, *web.ties]))

    def test_what_is_no_text(self):
        bads = STRANGE + (
            "", " ", "abc ", " abc", "abc  ab", "abc ab ", "abc ab  bc", "abc,ab", "abc\nab", "abc\tab", "abc ba",
            "abc ad", "ab ab" + " ab" * 11, "abcdefgh", "abcdefgh ab", "cba", "aab", "i", "abc ab abc", "abc a",
            "ab ab\n", "\nab", "ABC AB", "abc AB", "abc ab;", ("abc", "ab"), 5, b"abc ab", ["abc ab"], "abc ab\u00a0bc",
            "ab " + "ab " * 1300,
        )
        for bad in bads:
            self.raises(InvalidText, "value", bad, Web.read, bad)
            self.raises(InvalidText, "value", bad, Web.read, text=bad)


class CuttingAndShutting(Case):
    def test_cut(self):
        for web in [*tiny_webs(), *middle_webs(), BIG, BIG_MIXED]:
            for index in range(len(web)):
                rest = [tie for at, tie in enumerate(web.ties) if at != index]
                self.assertTrue(same(cut(web, index), web.places, rest))
        self.assertEqual(cut(index=1, web=HOUSE).text(), "abc ab bc ac")

    def test_shut(self):
        for web in [*tiny_webs(), *middle_webs(), BIG, BIG_MIXED]:
            for index, (first, second) in enumerate(web.ties):
                rest = [tie for at, tie in enumerate(web.ties) if at != index]
                places = web.places
                if first != second:
                    moved = {place: place for place in places}
                    moved[second] = first
                    rest = ["".join(sorted(moved[end] for end in tie)) for tie in rest]
                    places = places.replace(second, "")
                self.assertTrue(same(shut(web, index), places, rest))

    def test_shut_by_hand(self):
        self.assertEqual(shut(HOUSE, 0).text(), "ac aa ac ac")
        self.assertEqual(shut(HOUSE, 2).text(), "ab ab ab ab")
        self.assertEqual(shut(web=HOUSE, index=3).text(), "ab ab ab ab")
        self.assertEqual(shut(RING_OF_TWO, 0).text(), "c cc")
        self.assertEqual(shut(RING_OF_TWO, 1).text(), "c cc")
        self.assertEqual(shut(LONE_LOOPS, 2).text(), "d dd dd")
        self.assertEqual(shut(Web("abcd", ("bd", "ad", "cd", "dd", "ab")), 0).text(), "abc ab bc bb ab")
        self.assertEqual(shut(Web("bc", ("bc",)), 0).text(), "b")
        self.assertEqual(shut(Web("abc", ("ac", "bc")), 0).text(), "ab ab")

    def test_nothing_is_altered(self):
        web = Web("abcd", ("ab", "bd", "dd", "bd"))
        for index in range(4):
            self.unaltered(cut, web, index)
            self.unaltered(shut, web, index)
        self.unaltered(put, web, "c", "a")
        self.unaltered(renamed, web, "hgfe")
        self.assertEqual(web.text(), "abcd ab bd dd bd")

    def test_errors(self):
        for web in (HOUSE, LONE, LONE_LOOPS, BIG):
            for call in (cut, shut):
                if len(web):
                    self.check_errors(call, [("web", web, wrong_webs()), ("index", 0, wrong_indexes(web))])
                else:
                    for bad, error, attribute, expected in wrong_indexes(web):
                        self.raises(error, attribute, expected, call, web, bad)


class Putting(Case):
    def test_put(self):
        for web in few_webs():
            for place in web.places:
                for other in web.places:
                    tie = min(place, other) + max(place, other)
                    self.assertTrue(same(put(web, place, other), web.places, web.ties + (tie,)))
        self.assertEqual(put(web=HOUSE, place="c", other_place="a").text(), "abc ab ab bc ac ac")
        self.assertEqual(put(LONE, "h", "h").text(), "h hh")
        ten = Web("ab", ("ab",) * 10)
        self.assertEqual(len(put(ten, "b", "b")), 11)

    def test_errors(self):
        self.check_errors(put, [
            ("web", TWO_PARTS, wrong_webs()), ("place", "b", wrong_places(TWO_PARTS)),
            ("other_place", "g", wrong_places(TWO_PARTS)),
        ])

    def test_too_many_at_last(self):
        self.raises(TooMany, "limit", 11, put, BIG, "a", "b")
        self.raises(TooMany, "limit", 11, put, BIG, "a", "a")
        self.raises(UnknownPlace, "value", "h", put, BIG, "h", "a")
        self.raises(UnknownPlace, "value", "h", put, BIG, "a", "h")
        self.raises(UnknownPlace, "value", None, put, BIG, None, "h")


class Renaming(Case):
    def test_renamed(self):
        rows = [
            (HOUSE, "abc", "abc ab ab bc ac"), (HOUSE, "cba", "abc bc bc ab ac"), (HOUSE, "hda", "adh dh dh ad ah"),
            (LONE, "c", "c"), (Web("cf", ("cc", "cf")), "hb", "bh hh bh"), (NO_TIES, "hgfe", "efgh"),
        ]
        for web, letters, text in rows:
            self.assertEqual(renamed(web, letters).text(), text)
            self.assertEqual(renamed(letters=letters, web=web).text(), text)

    def test_as_the_document_tells(self):
        for web in [*middle_webs(), BIG, BIG_MIXED]:
            for letters in ("abcdefgh", "hgfedcba", "dbhafceg", "cdefghab"):
                letters = letters[:len(web.places)]
                self.assertTrue(same(renamed(web, letters), *oracle.renamed(web.places, web.ties, letters)))

    def test_errors(self):
        bads = STRANGE + (
            "", "a", "ab", "abcd", "aab", "aba", "abi", "ABC", "ab ", "a b", "abb", ("a", "b", "c"), ["a", "b", "c"],
            b"abc", "abcdefgh", 3, "\u0430bc",
        )
        wrongs = [(bad, InvalidLetters, "value", bad) for bad in bads]
        self.check_errors(renamed, [("web", HOUSE, wrong_webs()), ("letters", "hga", wrongs)])
        self.raises(InvalidLetters, "value", "abcdefgh", renamed, BIG, "abcdefgh")
        self.raises(InvalidLetters, "value", "aabcdef", renamed, BIG, "aabcdef")


class Beside(Case):
    def test_beside(self):
        rows = [
            (HOUSE, Web("dh", ("dh", "hh")), "abcdh ab ab bc ac dh hh"),
            (Web("dh", ("dh", "hh")), HOUSE, "abcdh dh hh ab ab bc ac"),
            (Web("aceg", ("ag",)), Web("bdf", ("bb", "df")), "abcdefg ag bb df"), (LONE, Web("a", ()), "ah"),
            (Web("ab", ("ab",) * 5), Web("cd", ("cd",) * 6), "abcd" + " ab" * 5 + " cd" * 6),
        ]
        for web, other, text in rows:
            self.assertEqual(beside(web, other).text(), text)
            self.assertEqual(beside(other_web=other, web=web).text(), text)

    def test_errors(self):
        self.check_errors(beside, [("web", HOUSE, wrong_webs()), ("other_web", LONE, wrong_webs())])

    def test_refused_ahead_of_too_many(self):
        self.raises(Refused, "value", "b", beside, Web("bcd", ()), Web("abc", ()))
        self.raises(Refused, "value", "c", beside, Web("ac", ()), Web("bc", ()))
        self.raises(Refused, "value", "a", beside, BIG, BIG)
        self.raises(Refused, "value", "g", beside, Web("cg", ("cg",) * 11), Web("abdefgh", ("ab",) * 11))
        self.raises(TooMany, "limit", 7, beside, Web("abcd", ("ab",) * 11), Web("efgh", ("ef",) * 11))
        self.raises(TooMany, "limit", 7, beside, Web("abcdefg", ()), LONE)
        self.raises(TooMany, "limit", 11, beside, Web("ab", ("ab",) * 6), Web("cd", ("cd",) * 6))
        self.raises(TooMany, "limit", 11, beside, Web("abcdef", ("ab",) * 11), Web("h", ("hh",)))
        self.assertEqual(len(beside(Web("ab", ("ab",) * 11), LONE)), 11)


class LoopsAndWholeness(Case):
    def test_without_loops(self):
        self.assertEqual(without_loops(LONE_LOOPS).text(), "d")
        self.assertEqual(without_loops(web=BIG_MIXED).text(), "abcdfgh fh ab bc ac bc cd ad gh fg")
        for web in [*tiny_webs(), *middle_webs(), BIG]:
            ties = [tie for tie in web.ties if tie[0] != tie[1]]
            self.assertTrue(same(without_loops(web), web.places, ties))

    def test_is_whole(self):
        for web in [*tiny_webs(), *middle_webs(), BIG, BIG_MIXED]:
            self.assertIs(is_whole(web), len(oracle.pieces(web, range(len(web)))) == 1)
        self.assertIs(is_whole(web=LONE), True)
        self.assertIs(is_whole(LONE_LOOPS), True)
        self.assertIs(is_whole(NO_TIES), False)
        self.assertIs(is_whole(BIG), True)
        self.assertIs(is_whole(BIG_MIXED), False)
        self.assertIs(is_whole(Web("ab", ("aa", "bb"))), False)

    def test_errors(self):
        for call in (without_loops, is_whole):
            self.check_errors(call, [("web", HOUSE, wrong_webs())])


if __name__ == "__main__":
    unittest.main()
