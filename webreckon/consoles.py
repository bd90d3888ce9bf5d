"""Consoles: questions about a web, asked and answered in lines of text."""

from webreckon.currents import count_currents
from webreckon.dyes import count_dyes
from webreckon.errors import Apart
from webreckon.errors import InvalidLeaning
from webreckon.errors import InvalidLine
from webreckon.errors import InvalidNumber
from webreckon.errors import Looped
from webreckon.errors import QuestionError
from webreckon.errors import ShapeError
from webreckon.lasting import cyclic_parts
from webreckon.leanings import count_sorts
from webreckon.leanings import is_ringless
from webreckon.lots import bridges
from webreckon.lots import lot_of_all
from webreckon.lots import pieces
from webreckon.pulls import pull
from webreckon.pulls import steps
from webreckon.scores import row_of
from webreckon.shapes import check_number
from webreckon.shapes import check_place
from webreckon.table import numbers_of
from webreckon.table import table
from webreckon.ways import count_apart
from webreckon.webs import check_web
from webreckon.webs import cut
from webreckon.webs import shut

FIGURES_OF_NUMBERS = "0123456789"
MOST_DYES_ASKED = 1000
NONE = "none"


def spaced(values):
    return " ".join([str(value) for value in values])


def number_told(word):
    """The number that stands there in figures without leading zeros."""
    if not word or not all([figure in FIGURES_OF_NUMBERS for figure in word]):
        raise InvalidNumber(word)
    if word[0] == "0" and word != "0":
        raise InvalidNumber(word)
    return int(word)


def fraction_told(value):
    return NONE if value is None else f"{value[0]}/{value[1]}"


def check_told_leaning(leaning):
    """A web without ties has a leaning, but a line cannot tell it."""
    if not leaning:
        raise InvalidLeaning(leaning)


def say_web(web):
    return web.text()


def say_trees(web):
    return str(numbers_of(web)["trees"])


def say_woods(web):
    return str(numbers_of(web)["woods"])


def say_holds(web):
    return str(numbers_of(web)["holds"])


def say_rows(web):
    return str(numbers_of(web)["rows"])


def say_pieces(web):
    return spaced(pieces(web, lot_of_all(web)))


def say_table(web):
    return " / ".join([spaced(row) for row in table(web)])


def say_bridges(web):
    return spaced(bridges(web)) or NONE


def say_parts(web):
    try:
        return spaced(cyclic_parts(web)) or NONE
    except Apart:
        return "apart"
    except Looped:
        return "looped"


def say_ringless(web, leaning):
    check_told_leaning(leaning)
    return "yes" if is_ringless(web, leaning) else "no"


def say_score(web, leaning):
    check_told_leaning(leaning)
    return spaced(row_of(web, leaning))


def say_sorts(web, word):
    return str(count_sorts(web, word))


def say_dyes(web, word):
    number = number_told(word)
    check_number(number, 1, MOST_DYES_ASKED)
    return str(count_dyes(web, number))


def say_currents(web, word):
    return str(count_currents(web, number_told(word)))


def say_cut(web, word):
    return cut(web, number_told(word)).text()


def say_shut(web, word):
    return shut(web, number_told(word)).text()


def say_pull(web, place, other_place):
    return fraction_told(pull(web, place, other_place))


def say_steps(web, place, other_place):
    return fraction_told(steps(web, place, other_place))


def say_apart(web, place, other_place):
    check_place(web, place)
    return "same" if place == other_place else str(count_apart(web, place, other_place))


# For each first word how many words stand behind it, and what answers them.
LINES = {
    "web": (0, say_web),
    "trees": (0, say_trees),
    "woods": (0, say_woods),
    "holds": (0, say_holds),
    "rows": (0, say_rows),
    "pieces": (0, say_pieces),
    "table": (0, say_table),
    "bridges": (0, say_bridges),
    "parts": (0, say_parts),
    "ringless": (1, say_ringless),
    "score": (1, say_score),
    "sorts": (1, say_sorts),
    "dyes": (1, say_dyes),
    "currents": (1, say_currents),
    "cut": (1, say_cut),
    "shut": (1, say_shut),
    "pull": (2, say_pull),
    "steps": (2, say_steps),
    "apart": (2, say_apart),
}


def answer(web, line):
    """The answer to the line; where it is wrong, the error of what is wrong in it."""
    if not isinstance(line, str):
        raise InvalidLine(line)
    first, *words = line.split(" ")
    if first not in LINES:
        raise InvalidLine(line)
    many, say = LINES[first]
    if len(words) != many:
        raise InvalidLine(line)
    return say(web, *words)


class Console:
    """One web, and the answers to lines about it."""

    def __init__(self, web):
        check_web(web)
        self.web = web

    def say(self, line):
        """The answer to a line."""
        try:
            return answer(self.web, line)
        except (ShapeError, QuestionError):
            raise InvalidLine(line) from None
