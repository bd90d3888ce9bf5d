import unittest

import oracle
from cases import Case
from samples import (
    BIG, BIG_MIXED, HOUSE, LONE, LONE_LOOPS, NO_TIES, RING_OF_TWO, few_webs, thrown_webs, tiny_webs, wrong_webs,
)
from webreckon.likeness import are_like, count_renamings, plain_text, renaming
from webreckon.webs import Web, renamed


def scrambled(web, letters, step):
    """A web like it: other letters, its ties in another order."""
    ties = list(renamed(web, letters).ties)
    ties = ties[step:] + ties[:step]
    return Web("".join(sorted(letters)), tuple(ties[::-1]))


def small_ones():
    webs = [Web("abc", ties) for ties in (
        (), ("ab",), ("cc",), ("ab", "bc"), ("ac", "bc"), ("ab", "ab"), ("aa", "bc"), ("bb", "bc"), ("aa", "bb"),
        ("cc", "cc"), ("ab", "ac", "bc"), ("aa", "ab", "bc"), ("bb", "ab", "bc"), ("ab", "bc", "ab"),
    )]
    webs += [Web("beh", ("bh", "eh")), Web("ab", ("ab", "ab")), RING_OF_TWO, LONE, Web("a", ()), LONE_LOOPS]
    return webs + [Web("dg", ()), Web("fgh", ("gg", "fh")), Web("cde", ("de", "cd", "de"))]


class Likeness(Case):
    def test_all_pairs_of_small_webs(self):
        webs = small_ones()
        for web in webs:
            for other in webs:
                found = oracle.renamings(web, other)
                self.assertIs(are_like(web, other), bool(found), (web.text(), other.text()))
                self.assertEqual(renaming(web, other), found[0] if found else None)

    def test_scrambled_webs_are_like(self):
        for at, web in enumerate(thrown_webs(23, 25, 4, 6)):
            letters = "hcfaebgd"[at % 4:][:len(web.places)]
            other = scrambled(web, letters, at % 3)
            found = oracle.renamings(web, other)
            self.assertIs(are_like(web, other), True)
            self.assertEqual(renaming(web, other), found[0])
            self.assertEqual(plain_text(web), plain_text(other))
            self.assertEqual(plain_text(web), oracle.plain_text(web))
            self.assertEqual(count_renamings(web), len(oracle.renamings(web, web)))
            self.assertEqual(count_renamings(other), count_renamings(web))

    def test_plain_text_tells_who_are_like(self):
        webs = tiny_webs()[-80:] + small_ones()
        texts = {web.text(): plain_text(web) for web in webs}
        for web in webs[::5]:
            self.assertEqual(texts[web.text()], oracle.plain_text(web))
            for other in webs[::2]:
                self.assertIs(are_like(web, other), texts[web.text()] == texts[other.text()])

    def test_count_renamings_of_tiny_webs(self):
        for web in tiny_webs()[::7] + few_webs():
            if len(web.places) < 5:
                self.assertEqual(count_renamings(web), len(oracle.renamings(web, web)))

    def test_plain_text_by_hand(self):
        rows = [
            (LONE, "a"), (HOUSE, "abc ab ab ac bc"), (NO_TIES, "abcd"), (Web("fgh", ("gg", "fh")), "abc aa bc"),
            (Web("abc", ("bc", "ac")), "abc ab ac"), (LONE_LOOPS, "a aa aa aa"), (RING_OF_TWO, "ab ab ab"),
        ]
        for web, text in rows:
            self.assertEqual(plain_text(web), text)
            self.assertEqual(plain_text(web=web), text)

    def test_counts_by_hand(self):
        rows = [
            (LONE, 1), (HOUSE, 2), (NO_TIES, 24), (RING_OF_TWO, 2), (LONE_LOOPS, 1), (Web("abcdefg", ()), 5040),
            (Web("abcd", ("ab", "bc", "cd", "ad")), 8), (Web("abc", ("ab", "bc")), 2), (Web("ab", ("aa",)), 1),
        ]
        for web, many in rows:
            self.assertEqual(count_renamings(web), many)
            self.assertEqual(count_renamings(web=web), many)

    def test_unlike_with_the_same_counts(self):
        path_and_ring = Web("abcdef", ("ab", "bc", "ac", "de", "ef", "df"))
        ring = Web("abcdef", ("ab", "bc", "cd", "de", "ef", "af"))
        self.assertIs(are_like(path_and_ring, ring), False)
        self.assertIsNone(renaming(path_and_ring, ring))
        self.assertNotEqual(plain_text(path_and_ring), plain_text(ring))
        star_like = Web("abcde", ("ab", "bc", "cd", "be"))
        crossed = Web("abcde", ("ab", "bc", "cd", "ce"))
        self.assertIs(are_like(star_like, crossed), True)
        self.assertIs(are_like(star_like, Web("abcde", ("ab", "bc", "cd", "de"))), False)
        self.assertIs(are_like(Web("abc", ("aa", "aa", "bb")), Web("abc", ("aa", "bb", "cc"))), False)

    def test_big_webs(self):
        for web in (BIG, BIG_MIXED):
            other = scrambled(web, "hbdfaceg"[:7], 4)
            letters = renaming(web, other)
            self.assertEqual(sorted(renamed(web, letters).ties), sorted(other.ties))
            self.assertEqual(plain_text(web), plain_text(other))
            self.assertEqual(plain_text(web), oracle.plain_text(web))
            self.assertEqual(Web.read(plain_text(web)).text(), plain_text(web))
            self.assertIs(are_like(other, web), True)
            own = oracle.permutations(web.places)
            same = [row for row in own if sorted(oracle.renamed(web.places, web.ties, row)[1]) == sorted(web.ties)]
            self.assertEqual(count_renamings(web), len(same))
        self.assertIs(are_like(BIG, BIG_MIXED), False)

    def test_the_first_renaming_is_told(self):
        ring = Web("abcd", ("ab", "bc", "cd", "ad"))
        self.assertEqual(renaming(ring, Web("efgh", ("eg", "fg", "fh", "eh"))), "egfh")
        self.assertEqual(renaming(web=NO_TIES, other_web=Web("aceh", ())), "aceh")
        self.assertEqual(renaming(Web("ab", ("bb",)), Web("gh", ("gg",))), "hg")

    def test_errors(self):
        for call in (are_like, renaming):
            self.check_errors(call, [("web", HOUSE, wrong_webs()), ("other_web", LONE, wrong_webs())])
        for call in (plain_text, count_renamings):
            self.check_errors(call, [("web", HOUSE, wrong_webs())])

    def test_nothing_is_altered(self):
        for call in (plain_text, count_renamings):
            self.unaltered(call, BIG_MIXED)
        self.unaltered(renaming, HOUSE, HOUSE)


if __name__ == "__main__":
    unittest.main()
