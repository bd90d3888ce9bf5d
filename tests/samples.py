"""Webs that many tests go through, and values that are wrong in many places."""

from itertools import combinations_with_replacement, product

from webreckon.errors import (
    InvalidBounds,
    InvalidDye,
    InvalidFraction,
    InvalidHeap,
    InvalidIndex,
    InvalidLeaning,
    InvalidLengths,
    InvalidLot,
    InvalidNumber,
    InvalidRooms,
    InvalidRow,
    InvalidValues,
    InvalidWord,
    NotATree,
    NotAWeb,
    UnknownPlace,
)
from webreckon.webs import Web

HOUSE = Web("abc", ("ab", "ab", "bc", "ac"))
LONE = Web("h", ())
LONE_LOOPS = Web("d", ("dd", "dd", "dd"))
NO_TIES = Web("bdfg", ())
TWO_PARTS = Web("abcdeg", ("ac", "bd", "cc", "ac", "bg", "dg"))
RING_OF_TWO = Web("ce", ("ce", "ce"))
# Seven places and eleven ties each: one whole, without loops; one in pieces, with loops and alike ties.
BIG = Web("abcdefg", ("ab", "ac", "ad", "bc", "cd", "de", "ef", "fg", "eg", "bf", "ag"))
BIG_MIXED = Web("abcdfgh", ("fh", "ab", "bc", "ac", "bc", "ff", "cd", "ad", "gh", "bb", "fg"))
THREE = Web("abc", ("ab", "bc", "ac"))
PATH = Web("bceh", ("bh", "ce", "ch"))
FULL = Web("acdf", ("ac", "ad", "af", "cd", "cf", "df"))
DOUBLED = Web("abdg", ("dg", "ab", "ab", "bd", "ag", "bd", "ab"))
STAR = Web("abcde", ("ac", "bc", "ce", "cd", "de"))
TIES_OF_TWO = Web("bh", ("bh",) * 5)
# Two more with seven places and eleven ties: one with nothing but a path, most of it doubled, one with one ring.
CHAIN = Web("abcdefg", ("fg", "ab", "bc", "ab", "cd", "ef", "bc", "de", "cd", "ef", "de"))
WHEEL_AND_TWIG = Web("abdefgh", ("ab", "ad", "ae", "af", "bd", "de", "ef", "bf", "fg", "gh", "gh"))
# Heaps are told of none of these.
APART = Web("abc", ("ab", "ab"))
LOOPED = Web("abc", ("ab", "bc", "bb"))
APART_AND_LOOPED = Web("abc", ("ab", "cc"))
NAMED = (HOUSE, LONE, LONE_LOOPS, NO_TIES, TWO_PARTS, RING_OF_TWO)


def possible_ties(places):
    return ["".join(pair) for pair in combinations_with_replacement(places, 2)]


def tiny_webs():
    """All webs with the places a, ab, abc and up to three ties, in every order of the ties."""
    webs = []
    for places in ("a", "ab", "abc"):
        for many in range(4):
            webs.extend(Web(places, ties) for ties in product(possible_ties(places), repeat=many))
    return webs


class Dice:
    """The same numbers at each run."""

    def __init__(self, seed):
        self.state = seed

    def below(self, many):
        self.state = (self.state * 6364136223846793005 + 1442695040888963407) % 2 ** 64
        return (self.state >> 33) % many


def thrown_webs(seed, many, most_places, most_ties):
    """Webs with any letters, several pieces, loops and alike ties among them."""
    dice = Dice(seed)
    webs = []
    for _ in range(many):
        letters = list("abcdefgh")
        size = 2 + dice.below(most_places - 1)
        places = "".join(sorted(letters.pop(dice.below(len(letters))) for _ in range(size)))
        kinds = possible_ties(places)
        ties = tuple(kinds[dice.below(len(kinds))] for _ in range(dice.below(most_ties + 1)))
        webs.append(Web(places, ties))
    return webs


def middle_webs():
    return [*NAMED, *thrown_webs(11, 40, 6, 7)]


def few_webs():
    return [*NAMED, *thrown_webs(5, 14, 5, 6)]


def is_for_heaps(web):
    """Whether it is whole and without loops, by joining places again and again."""
    joined = web.places[0]
    for _ in web.places:
        for tie in web.ties:
            if tie[0] in joined or tie[1] in joined:
                joined += tie
    return set(joined) == set(web.places) and all(tie[0] != tie[1] for tie in web.ties)


def heap_webs():
    """Whole webs without loops of up to five places."""
    told = [LONE, RING_OF_TWO, TIES_OF_TWO, HOUSE, THREE, PATH, FULL, DOUBLED, STAR]
    return told + [web for web in thrown_webs(23, 400, 5, 7) if is_for_heaps(web)]


def tiny_heap_webs():
    return [web for web in tiny_webs() if is_for_heaps(web)]


class Same:
    """Told to be equal to whatever it is held against."""

    def __eq__(self, other):
        return True

    def __hash__(self):
        return hash("trees")


DEEP = ()
for _ in range(18):
    DEEP = (DEEP,)

# None of these is a value of any parameter that has an error.
STRANGE = (
    None, True, False, b"", b"abc", [], [0], ["ab"], {}, {"a": 1}, object(), Web, len,
    10 ** 59, -10 ** 59, -1, DEEP, frozenset(), "x" * 4000, "\n", "\u00e4",
)


def wrong_webs():
    near = ("abc", "abc ab", ("abc", ("ab",)), 0, 1, "")
    return [(bad, NotAWeb, "value", bad) for bad in STRANGE + near]


def wrong_indexes(web):
    bads = STRANGE + (len(web.ties), "0", (0,), "")
    return [(bad, InvalidIndex, "value", bad) for bad in bads]


def wrong_places(web):
    absent = [letter for letter in "abcdefgh" if letter not in web.places]
    bads = STRANGE + (0, 1, "", web.places + "a", web.places[0] * 2, web.places[0].upper(), tuple(web.places))
    return [(bad, UnknownPlace, "value", bad) for bad in (*bads, *absent)]


def wrong_lots(web):
    many = len(web.ties)
    no_tuples = [bad for bad in STRANGE if not isinstance(bad, tuple)] + [0, "0", "", range(2), "01"]
    rows = [(bad, InvalidLot, "index", None) for bad in no_tuples]
    for bad in (*STRANGE, many, "0", "ab", (0,)):
        rows.append(((bad,), InvalidLot, "index", 0))
        if many > 1:
            rows.append(((0, bad, None), InvalidLot, "index", 1))
    rows.append((DEEP, InvalidLot, "index", 0))
    if many > 2:
        rows.extend([
            ((0, 0), InvalidLot, "index", 1),
            ((1, 0), InvalidLot, "index", 1),
            ((0, 2, 1), InvalidLot, "index", 2),
            ((0, 1, 2, 2), InvalidLot, "index", 3),
            ((2, 1, many), InvalidLot, "index", 1),
            (tuple(range(many + 1)), InvalidLot, "index", many),
        ])
    return rows


def wrong_trees(web, no_trees):
    return wrong_lots(web) + [(bad, NotATree, "value", bad) for bad in no_trees]


def wrong_leanings(web):
    many = len(web.ties)
    bads = [*STRANGE, "+" * (many + 1), "-" * (many + 2), tuple("+" * many), list("-" * many), b"+" * many]
    if many:
        bads += ["", "+" * (many - 1), "+" * (many - 1) + " ", "0" + "-" * (many - 1), "*" * many, "+-" * many]
        bads += ["+" * (many - 1) + "\u2212"]
    return [(bad, InvalidLeaning, "value", bad) for bad in bads]


def wrong_tuples(many, error, right, wrong_elements):
    """For a tuple that must have so many elements."""
    bads = [bad for bad in STRANGE if not isinstance(bad, tuple)] + [0, "0" * many, [right] * many]
    bads += [(right,) * (many + 1), (None,) * (many + 1), (right,) * (many + 12)]
    if many:
        bads += [(), (right,) * (many - 1), ("x",) * (many - 1)]
    if many != 1:
        bads.append(DEEP)
    rows = [(bad, error, "index", None) for bad in bads]
    for bad in (None, True, False, "1", b"1", [1], 10 ** 59, -10 ** 59, DEEP, *wrong_elements):
        for at in range(many):
            rows.append(((right,) * at + (bad,) + (None,) * (many - at - 1), error, "index", at))
    return rows


def wrong_lengths(web):
    return wrong_tuples(len(web.ties), InvalidLengths, 1, ((1,), 10 ** 9 + 1, -10 ** 9 - 1))


def wrong_rooms(web):
    return wrong_tuples(len(web.ties), InvalidRooms, 1, ((1,), 10 ** 12 + 1, -1))


def wrong_rows(web):
    return wrong_tuples(len(web.places), InvalidRow, 1, ((1,), 10 ** 6 + 1, -1))


def wrong_heaps(web):
    return wrong_tuples(len(web.places), InvalidHeap, -1, ((1,), 10 ** 6 + 1, -10 ** 6 - 1))


def wrong_gives(web):
    return wrong_tuples(len(web.places), InvalidRow, -1, ((1,), 10 ** 6 + 1, -10 ** 6 - 1))


def wrong_bounds(web):
    far = 10 ** 12
    bads = (
        1, (), (1,), (1, 2, 3), [1, 2], "12", (2, 1), (0, -1), (far, -far), (far, far + 1), (-far - 1, far), (True, 1),
        (0, True), (None, 1), (0, None), (False, True), ("0", "1"), ((0, 1), 1), (0, 10 ** 59), (-10 ** 59, 0),
    )
    return wrong_tuples(len(web.ties), InvalidBounds, (-3, 5), bads)


def wrong_values(web):
    bads = tuple(bad for bad, _, _, _ in wrong_fractions())
    return wrong_tuples(len(web.ties), InvalidValues, (-3, 5), bads)


def wrong_dyes(web, number, more=""):
    many = len(web.places)
    bads = [*STRANGE, "1" * (many + 1), "1" * (many - 1), tuple("1" * many), ["1"] * many, b"1" * many]
    bads += ["1" * (many - 1) + figure for figure in ("0", "8", "9", " ", "a", "-", "\u0661", "\u00b2", "?", "!")
             if figure not in more]
    bads += [str(number + 1) + "1" * (many - 1), "1" * (many - 1) + str(number + 1), 1, int("1" * many)]
    return [(bad, InvalidDye, "value", bad) for bad in bads]


def wrong_fractions():
    bads = STRANGE + (
        0, 1, "1/2", "12", (), (1,), (1, 2, 3), [1, 2], (2, 4), (0, 2), (0, 5), (-2, 2), (1, 0), (0, 0), (1, -1),
        (-1, -2), (10 ** 6 + 1, 1), (-10 ** 6 - 1, 1), (1, 1001), (10 ** 59, 1), (1, 10 ** 59), (True, 1), (1, True),
        (None, 1), (1, None), ("1", "2"), ((1, 2), 1), (False, 1), (999000, 1000),
    )
    return [(bad, InvalidFraction, "value", bad) for bad in bads]


def wrong_words():
    near = ("", "ring", "cut", "Rings", "rings ", "boths", 0, 1, ("rings",), b"rings", ["both"], "rings cuts")
    return [(bad, InvalidWord, "value", bad) for bad in STRANGE + near]


def wrong_words_of_numbers():
    near = ("", "tree", "Trees", "trees ", " trees", "cuts", "row", 0, 1, ("trees",), b"trees", ["woods"], "woods holds")
    return [(bad, InvalidWord, "value", bad) for bad in STRANGE + near]


def wrong_numbers(many, least=0):
    """For a number from the least one to one less than so many."""
    bads = STRANGE + (many, many + 1, "0", (0,), "", least - 1)
    return [(bad, InvalidNumber, "value", bad) for bad in bads]
