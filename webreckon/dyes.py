"""Dyes: figures for the places, unlike ones at the ends of each tie."""

from webreckon.errors import Refused
from webreckon.errors import TooMany
from webreckon.limits import MOST_DYE
from webreckon.limits import MOST_LIST
from webreckon.lots import all_lots
from webreckon.lots import full_rank
from webreckon.lots import herds_of
from webreckon.shapes import FIGURES
from webreckon.shapes import UNTOLD
from webreckon.shapes import check_dye
from webreckon.shapes import check_number
from webreckon.table import counts_of_lots
from webreckon.table import sum_of_powers
from webreckon.webs import check_web

MOST_FIGURES = 10 ** 6


def sign_of(size):
    """Lots are added and taken away by turns, so that in the end just what has no tie with like ends is counted."""
    return 1 if size % 2 == 0 else -1


def counts_of_dyes(web):
    """A lot with rank r leaves one choice for each of its pieces, which are the places less r."""
    counts = [0] * (len(web.places) + 1)
    rank_of_all = full_rank(web)
    for lack, row in enumerate(counts_of_lots(web)):
        rank_of_lot = rank_of_all - lack
        for spare_of_lot, many in enumerate(row):
            counts[len(web.places) - rank_of_lot] += sign_of(rank_of_lot + spare_of_lot) * many
    return counts


def number_of_dyes(web, number):
    return sum_of_powers(counts_of_dyes(web), number)


def fits(web, figures):
    """Whether no tie has like ends among the first places, as many as figures."""
    told = {place: figure for place, figure in zip(web.places, figures)}
    return all([told[tie[0]] != told[tie[1]] for tie in web.ties if tie[0] in told and tie[1] in told])


def dyes_of(web, number):
    """All dyes, in the order of strings."""
    found = [""]
    for _ in web.places:
        longer = [figures + figure for figures in found for figure in FIGURES[:number]]
        found = [figures for figures in longer if fits(web, figures)]
    return found


def first_dye(web, number):
    """The first dye in the order of strings, None if there is none."""
    rows = [""]
    while rows:
        figures = rows.pop()
        if len(figures) == len(web.places):
            return figures
        longer = [figures + figure for figure in FIGURES[:number][::-1]]
        rows.extend([row for row in longer if fits(web, row)])
    return None


def choices(web, herd, number, dye):
    """How many figures a herd of places that have one together may have, so that it agrees with the told ones."""
    told = [figure for place, figure in zip(web.places, dye) if place in herd and figure != UNTOLD]
    if not told:
        return number
    return 1 if told.count(told[0]) == len(told) else 0


def choices_with(web, lot, number, dye):
    """How many rows of figures agree with the told dye and are alike at the ends of each tie of the lot."""
    many = 1
    for herd in herds_of(web, lot):
        many *= choices(web, herd, number, dye)
    return many


def check_web_and_number(web, number):
    check_web(web)
    check_number(number, 1, MOST_DYE)


def dye_counts(web):
    """The numbers that give the number of dyes with any number of figures."""
    check_web(web)
    return tuple(counts_of_dyes(web))


def count_dyes(web, number):
    """How many dyes there are with so many figures."""
    check_web(web)
    check_number(number, 1, MOST_FIGURES)
    return number_of_dyes(web, number)


def least_dyes(web):
    """The least number with which there is a dye, None with a loop: as many figures as places are enough."""
    check_web(web)
    for number in range(1, len(web.places) + 1):
        if number_of_dyes(web, number) > 0:
            return number
    return None


def dyes(web, number):
    """The tuple of all dyes, in the order of strings."""
    check_web_and_number(web, number)
    if number_of_dyes(web, number) > MOST_LIST:
        raise TooMany(MOST_LIST)
    return tuple(dyes_of(web, number))


def is_dye(web, number, dye):
    """Whether the string of figures is a dye."""
    check_web_and_number(web, number)
    check_dye(web, dye, FIGURES[:number])
    return fits(web, dye)


def fitting_dyes(web, number, dye):
    """How many dyes agree with the told one."""
    check_web_and_number(web, number)
    check_dye(web, dye, FIGURES[:number] + UNTOLD)
    return sum([sign_of(len(lot)) * choices_with(web, lot, number, dye) for lot in all_lots(web)])


def leaning_of(web, number, dye):
    """The leaning each arrow of which leads from a lesser figure to a greater one."""
    check_web_and_number(web, number)
    check_dye(web, dye, FIGURES[:number])
    if not fits(web, dye):
        raise Refused(dye)
    told = {place: figure for place, figure in zip(web.places, dye)}
    return "".join(["+" if told[tie[0]] < told[tie[1]] else "-" for tie in web.ties])


def rising_pairs(web, number):
    """How many pairs of a ringless leaning and of figures that never fall along an arrow there are (Stanley)."""
    check_web_and_number(web, number)
    return abs(number_of_dyes(web, -number))
