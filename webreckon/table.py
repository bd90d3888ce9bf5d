"""The table of a web: by all its lots, by its trees, and its value at two fractions."""

from math import comb
from math import gcd

from webreckon.lots import all_lots
from webreckon.lots import full_rank
from webreckon.lots import outside_of
from webreckon.lots import rank_of
from webreckon.shapes import check_fraction
from webreckon.trees import check_tree
from webreckon.trees import exchanges_of
from webreckon.trees import trees_of
from webreckon.webs import check_web


def rows_of_noughts(web):
    """As many rows, as long, as the table has."""
    rank_of_all = full_rank(web)
    spare_of_all = len(web.ties) - rank_of_all
    return [[0] * (spare_of_all + 1) for _ in range(rank_of_all + 1)]


def tuple_of_rows(rows):
    return tuple([tuple(row) for row in rows])


def counts_of_lots(web):
    rank_of_all = full_rank(web)
    rows = rows_of_noughts(web)
    for lot in all_lots(web):
        rank_of_lot = rank_of(web, lot)
        rows[rank_of_all - rank_of_lot][len(lot) - rank_of_lot] += 1
    return rows


def shifted(row):
    """The row of a sum of powers of x - 1 as that of a sum of powers of x."""
    longer = [0] * len(row)
    for power, many in enumerate(row):
        for lower in range(power + 1):
            sign = 1 if (power - lower) % 2 == 0 else -1
            longer[lower] += sign * many * comb(power, lower)
    return longer


def across(rows):
    return [list(column) for column in zip(*rows)]


def table_of(web):
    rows = [shifted(row) for row in counts_of_lots(web)]
    return across([shifted(column) for column in across(rows)])


def powers(base, most):
    row = [1]
    for _ in range(most):
        row.append(row[-1] * base)
    return row


def sum_of_powers(counts, base):
    """The sum of each count times the power of the base with its index."""
    return sum([many * power for many, power in zip(counts, powers(base, len(counts) - 1))])


def numbers_of(web):
    """The numbers that lot counts tell at once, each under the word for it."""
    rows = counts_of_lots(web)
    woods = sum([row[0] for row in rows])
    return {
        "trees": rows[0][0],
        "woods": woods,
        "holds": sum(rows[0]),
        "ringless": sum([sum_of_powers(row, -1) for row in rows]),
        "rows": woods,
        "pieces": len(web.places) - len(rows) + 1,
        "spare": len(rows[0]) - 1,
    }


def scaled_powers(fraction, most):
    """The powers of the fraction up to the most, each times the bottom to the most: integers."""
    tops = powers(fraction[0], most)
    bottoms = powers(fraction[1], most)
    return [tops[at] * bottoms[most - at] for at in range(most + 1)]


def early_ties(web, tree):
    return tuple([index for index in tree if all([index < other for other in exchanges_of(web, tree, index)])])


def late_ties(web, tree):
    rest = outside_of(web, tree)
    return tuple([index for index in rest if all([index < other for other in exchanges_of(web, tree, index)])])


def lot_counts(web):
    """The numbers of lots by what they lack in rank, and by their spare."""
    check_web(web)
    return tuple_of_rows(counts_of_lots(web))


def table(web):
    """The numbers that give the sum over all lots at any x and y."""
    check_web(web)
    return tuple_of_rows(table_of(web))


def value(web, x, y):
    """The value of the table at two fractions, a fraction in lowest terms."""
    check_web(web)
    check_fraction(x)
    check_fraction(y)
    rows = table_of(web)
    most_x = len(rows) - 1
    most_y = len(rows[0]) - 1
    by_x = scaled_powers(x, most_x)
    by_y = scaled_powers(y, most_y)
    top = 0
    for row, factor in zip(rows, by_x):
        top += factor * sum([many * other for many, other in zip(row, by_y)])
    bottom = powers(x[1], most_x)[-1] * powers(y[1], most_y)[-1]
    common = gcd(top, bottom)
    return (top // common, bottom // common)


def early(web, tree):
    """The lot of the ties of the tree that come ahead of all they can be exchanged with."""
    check_web(web)
    check_tree(web, tree)
    return early_ties(web, tree)


def late(web, tree):
    """The lot of the ties outside the tree that come first in the ring that they close."""
    check_web(web)
    check_tree(web, tree)
    return late_ties(web, tree)


def by_trees(web):
    """The numbers of trees by their early and their late ties."""
    check_web(web)
    rows = rows_of_noughts(web)
    for tree in trees_of(web):
        rows[len(early_ties(web, tree))][len(late_ties(web, tree))] += 1
    return tuple_of_rows(rows)
