import unittest

import oracle_checker as slow
import oracle_heaps
import oracle_rows
from cases import Case
from samples import (
    APART, APART_AND_LOOPED, BIG, BIG_MIXED, CHAIN, FULL, HOUSE, LONE, LONE_LOOPS, LOOPED, NO_TIES, PATH, RING_OF_TWO,
    STRANGE, THREE, TIES_OF_TWO, TWO_PARTS, WHEEL_AND_TWIG, few_webs, thrown_webs, tiny_webs, wrong_webs,
)
from webreckon.consoles import Console
from webreckon.currents import count_currents
from webreckon.dyes import count_dyes
from webreckon.errors import InvalidLine
from webreckon.lasting import cyclic_parts
from webreckon.leanings import count_sorts
from webreckon.pulls import pull, steps
from webreckon.ways import count_apart
from webreckon.webs import cut, shut

GREAT_WEBS = (BIG, BIG_MIXED, CHAIN, WHEEL_AND_TWIG)


def spaced(values):
    return " ".join(map(str, values))


def told_fraction(part):
    return "none" if part is None else str(part[0]) + "/" + str(part[1])


class Lines(Case):
    def check_plain_lines(self, web):
        console = Console(web)
        lots = slow.lots_of(web.text())
        self.assertEqual(console.say("web"), web.text())
        self.assertEqual(console.say("trees"), str(len(lots.trees())))
        self.assertEqual(console.say("woods"), str(sum(map(lots.is_wood, lots.lots))))
        self.assertEqual(console.say("holds"), str(sum(map(lots.is_hold, lots.lots))))
        self.assertEqual(console.say("rows"), str(len(slow.rows_of(web.text()))))
        self.assertEqual(console.say("pieces"), spaced(lots.pieces[lots.all]))
        self.assertEqual(console.say("table"), " / ".join(spaced(row) for row in slow.table_of(web.text())))
        bridges = [index for index in lots.all if lots.is_bond((index,))]
        self.assertEqual(console.say("bridges"), spaced(bridges) or "none")
        self.assertEqual(console.say("parts"), self.parts(web))
        self.assertIs(console.web, web)

    def parts(self, web):
        lots = slow.lots_of(web.text())
        if len(lots.pieces[lots.all]) > 1:
            return "apart"
        if any(tie[0] == tie[1] for tie in web.ties):
            return "looped"
        return spaced(cyclic_parts(web)) or "none"

    def check_lines_of_leanings(self, web):
        console = Console(web)
        told = slow.leanings_of(web.text())
        for leaning in told.all[::max(1, len(told.all) // 9)]:
            if leaning:
                self.assertEqual(console.say("ringless " + leaning), "yes" if told.is_ringless(leaning) else "no")
                self.assertEqual(console.say("score " + leaning), spaced(oracle_rows.score(web, leaning)))
        for word in ("rings", "cuts", "both"):
            self.assertEqual(console.say("sorts " + word), str(count_sorts(web, word)))

    def check_lines_of_numbers(self, web):
        console = Console(web)
        for number in (1, 2, 3, 9, 10, 100, 999, 1000):
            self.assertEqual(console.say(f"dyes {number}"), str(count_dyes(web, number)))
        for number in (1, 2, 3):
            self.assertEqual(console.say(f"dyes {number}"), str(len(oracle_rows.dyes(web, number))))
        for number in (2, 3, 10, 99, 100):
            self.assertEqual(console.say(f"currents {number}"), str(count_currents(web, number)))
        for index in range(len(web.ties)):
            self.assertEqual(console.say(f"cut {index}"), cut(web, index).text())
            self.assertEqual(console.say(f"shut {index}"), shut(web, index).text())
        self.assertIs(console.web, web)

    def check_lines_of_places(self, web):
        console = Console(web)
        for one in web.places:
            for two in web.places:
                self.assertEqual(console.say(f"pull {one} {two}"), told_fraction(pull(web, one, two)))
                self.assertEqual(console.say(f"steps {one} {two}"), told_fraction(steps(web, one, two)))
                many = "same" if one == two else str(count_apart(web, one, two))
                self.assertEqual(console.say(f"apart {one} {two}"), many)

    def test_webs(self):
        webs = [*tiny_webs()[::11], *few_webs(), *thrown_webs(193, 8, 6, 6), THREE, FULL, PATH, TIES_OF_TWO, APART,
                LOOPED, APART_AND_LOOPED]
        for web in webs:
            self.check_plain_lines(web)
            self.check_lines_of_leanings(web)
            self.check_lines_of_places(web)
            if len(web.places) < 6:
                self.check_lines_of_numbers(web)

    def test_great_webs(self):
        for web in GREAT_WEBS:
            self.check_plain_lines(web)
            self.check_lines_of_places(web)
            console = Console(web)
            self.assertEqual(console.say("dyes 1000"), str(count_dyes(web, 1000)))
            self.assertEqual(console.say("currents 100"), str(count_currents(web, 100)))
            self.assertEqual(console.say("sorts both"), console.say("trees"))
            self.assertEqual(console.say("cut 10"), cut(web, 10).text())
            self.assertEqual(console.say("shut 10"), shut(web, 10).text())
            self.assertEqual(console.say("ringless " + "+" * 11), "no" if web is BIG_MIXED else "yes")
            for place, other in ("ab", "bf"):
                self.assertEqual(console.say(f"pull {place} {other}"), told_fraction(oracle_heaps.pull(web, place, other)))

    def test_by_hand(self):
        console = Console(web=HOUSE)
        for line, answer in (
            ("web", "abc ab ab bc ac"), ("trees", "5"), ("woods", "10"), ("holds", "10"), ("rows", "10"),
            ("pieces", "abc"), ("table", "0 1 1 / 1 1 0 / 1 0 0"), ("bridges", "none"), ("ringless ++++", "yes"),
            ("ringless +++-", "no"), ("score ++++", "3 1 0"), ("sorts rings", "10"), ("sorts cuts", "10"),
            ("sorts both", "5"), ("dyes 3", "6"), ("dyes 1", "0"), ("currents 2", "0"), ("currents 3", "2"),
            ("pull a b", "2/5"), ("pull a a", "0/1"), ("steps c c", "0/1"), ("steps a c", "3/1"), ("apart a b", "3"),
            ("apart b b", "same"), ("parts", "5"), ("cut 0", "abc ab bc ac"), ("shut 3", "ab ab ab ab"),
        ):
            self.assertEqual(console.say(line=line), answer)
            self.assertIs(console.say(line).__class__, str)
        lone = Console(LONE)
        self.assertEqual([lone.say(line) for line in ("web", "trees", "pieces", "table", "bridges", "parts", "dyes 7")],
                         ["h", "1", "h", "1", "none", "none", "7"])
        self.assertEqual(Console(PATH).say("bridges"), "0 1 2")
        self.assertEqual(Console(PATH).say("parts"), "none")
        self.assertEqual(Console(NO_TIES).say("pieces"), "b d f g")
        self.assertEqual(Console(NO_TIES).say("parts"), "apart")
        self.assertEqual(Console(NO_TIES).say("pull b d"), "none")
        self.assertEqual(Console(NO_TIES).say("steps g d"), "none")
        self.assertEqual(Console(NO_TIES).say("apart g d"), "0")
        self.assertEqual(Console(LOOPED).say("parts"), "looped")
        self.assertEqual(Console(APART_AND_LOOPED).say("parts"), "apart")
        self.assertEqual(Console(RING_OF_TWO).say("parts"), "2")
        self.assertEqual(Console(FULL).say("parts"), "4 4")
        self.assertEqual(Console(LONE_LOOPS).say("cut 2"), "d dd dd")

    def test_the_web_stays(self):
        console = Console(HOUSE)
        console.say("cut 0")
        console.say("shut 0")
        self.assertIs(console.web, HOUSE)
        self.assertEqual(console.say("web"), "abc ab ab bc ac")


RIGHT = (
    "web", "trees", "woods", "holds", "rows", "pieces", "table", "bridges", "ringless ++++", "score +-+-", "sorts both",
    "dyes 3", "dyes 1000", "currents 2", "currents 100", "pull a b", "steps a b", "apart a b", "parts", "cut 3", "shut 0",
)


class WrongLines(Case):
    def check_wrong(self, console, line):
        self.raises(InvalidLine, "value", line, console.say, line)
        self.raises(InvalidLine, "value", line, console.say, line=line)

    def test_one_thing_otherwise(self):
        console = Console(HOUSE)
        for line in RIGHT:
            console.say(line)
            words = line.split(" ")
            others = [line + " ", " " + line, line.replace(" ", "  "), line.upper(), line.title(), line[1:], "\n" + line,
                      line + "\n", line + "\t", line.replace(" ", "\t"), line.replace(" ", ""), line + " a", line + " 1",
                      "a " + line, line + " web", line + ".", line.replace(" ", "\u00a0"), " ".join(words[::-1]),
                      line + "\x00", line[0] + line]
            others += [" ".join(words[:-1])]
            for other in others:
                if other not in RIGHT:
                    self.check_wrong(console, other)
        self.assertIs(console.web, HOUSE)

    def test_numbers(self):
        house, big = Console(HOUSE), Console(BIG)
        for word in ("dyes", "currents", "cut", "shut"):
            for told in ("", "01", "00", "+1", "-1", "1.0", "1e1", "0x1", "1_0", "\u0661", "\u00b2", "1,", "a", "ab",
                         "-0", "+0", " 1", "9" * 60, "9" * 61, "1" * 3900, "002", "2 ", "1/1", "\uff11"):
                self.check_wrong(house, word + " " + told)
        for line in ("dyes 0", "dyes 1001", "dyes 1000000", "currents 0", "currents 1", "currents 101", "cut 4", "shut 4",
                     "cut 10", "shut 11", "cut a", "shut ab"):
            self.check_wrong(house, line)
        for line in ("cut 11", "shut 11", "cut 010", "shut 1 0"):
            self.check_wrong(big, line)
        self.assertEqual(big.say("cut 10"), cut(BIG, 10).text())
        for web in (LONE, NO_TIES):
            for line in ("cut 0", "shut 0"):
                self.check_wrong(Console(web), line)

    def test_leanings(self):
        for word in ("ringless", "score"):
            for told in ("", "+", "+++", "+++++", "+++0", "++ ++", "++++ ++++", "+-+*", "abab", "\u2212+++"):
                self.check_wrong(Console(HOUSE), word + " " + told)
            for web in (LONE, NO_TIES):
                for line in (word, word + " ", word + " +", word + "  "):
                    self.check_wrong(Console(web), line)
        for told in ("", "ring", "Both", "all", "rings cuts", "both both"):
            self.check_wrong(Console(HOUSE), "sorts " + told)

    def test_places(self):
        for word in ("pull", "steps", "apart"):
            for told in ("", "a", "a d", "d a", "d d", "a b c", "ab", "ab c", "A b", "a ", " a", "a  b", "0 1", "a B", "h h"):
                self.check_wrong(Console(HOUSE), word + " " + told)
        self.check_wrong(Console(TWO_PARTS), "apart f f")

    def test_no_lines(self):
        console = Console(HOUSE)
        for line in (*STRANGE, 0, 1, "", " ", "  ", ("web",), ["web"], b"web", b"trees", "help", "quit", "webs", "tree",
                     "ringed", "none", "least", "dye 3", "web trees", "trees\ntrees", "x" * 4000, " " * 4000):
            self.check_wrong(console, line)
        self.assertIs(console.web, HOUSE)

    def test_of_a_console(self):
        self.check_errors(Console, [("web", HOUSE, wrong_webs())])


if __name__ == "__main__":
    unittest.main()
