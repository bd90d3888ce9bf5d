"""Trees: counted, listed, exchanged, and the least ones by the lengths of ties."""

from webreckon.errors import NotATree
from webreckon.lots import are_joined
from webreckon.lots import full_rank
from webreckon.lots import is_tree_lot
from webreckon.lots import outside_of
from webreckon.lots import spare_of
from webreckon.lots import without
from webreckon.shapes import check_index
from webreckon.shapes import check_lengths
from webreckon.shapes import check_lot
from webreckon.shapes import check_number
from webreckon.webs import check_web


def check_tree(web, tree):
    check_lot(web, tree)
    if not is_tree_lot(web, tree):
        raise NotATree(tree)


def trees_of(web):
    """All trees, ascending: the woods that are as great as can be."""
    woods = [()]
    for index in range(len(web.ties)):
        longer = [wood + (index,) for wood in woods]
        woods = woods + [wood for wood in longer if spare_of(web, wood) == 0]
    size = full_rank(web)
    return tuple(sorted([wood for wood in woods if len(wood) == size]))


def parts_ends(web, lot, index):
    """Whether the ends of the tie are in two pieces of the lot."""
    tie = web.ties[index]
    return not are_joined(web, lot, tie[0], tie[1])


def exchanges_of(web, tree, index):
    """A tie closes a ring with a tree, and goes for a tie of the tree without which its ends are parted."""
    if index not in tree:
        return tuple([other for other in tree if parts_ends(web, without(tree, other), index)])
    rest = without(tree, index)
    return tuple([other for other in outside_of(web, tree) if parts_ends(web, rest, other)])


def lengths_of_trees(web, lengths):
    return [sum([lengths[index] for index in tree]) for tree in trees_of(web)]


def count_trees(web):
    check_web(web)
    return len(trees_of(web))


def all_trees(web):
    """The tuple of all trees, ascending."""
    check_web(web)
    return trees_of(web)


def trees_with(web, inside, outside):
    """How many trees have all ties of the first lot and none of the second one."""
    check_web(web)
    check_lot(web, inside)
    check_lot(web, outside)
    count = 0
    for tree in trees_of(web):
        if all([index in tree for index in inside]) and not any([index in tree for index in outside]):
            count += 1
    return count


def nth_tree(web, number):
    """The tree with this index among all, ascending."""
    check_web(web)
    trees = trees_of(web)
    check_number(number, 0, len(trees) - 1)
    return trees[number]


def index_of_tree(web, tree):
    """The index of the tree among all, ascending."""
    check_web(web)
    check_tree(web, tree)
    return trees_of(web).index(tree)


def exchanges(web, tree, index):
    """The lot of all ties with which this one can be exchanged."""
    check_web(web)
    check_tree(web, tree)
    check_index(web, index)
    return exchanges_of(web, tree, index)


def least_length(web, lengths):
    """The least sum of the lengths of a tree."""
    check_web(web)
    check_lengths(web, lengths)
    return min(lengths_of_trees(web, lengths))


def count_least(web, lengths):
    """How many trees have the least sum."""
    check_web(web)
    check_lengths(web, lengths)
    sums = lengths_of_trees(web, lengths)
    return sums.count(min(sums))


def least_tree(web, lengths):
    """The first tree with the least sum."""
    check_web(web)
    check_lengths(web, lengths)
    sums = lengths_of_trees(web, lengths)
    return trees_of(web)[sums.index(min(sums))]


def bound_of(web, lengths, index):
    """The least over all ways around the tie of the greatest length on the way, None if there is none."""
    check_web(web)
    check_lengths(web, lengths)
    check_index(web, index)
    if not parts_ends(web, (), index):
        return None
    others = sorted([(lengths[other], other) for other in outside_of(web, (index,))])
    shorter = ()
    for length, at in others:
        shorter = shorter + (at,)
        if not parts_ends(web, shorter, index):
            return length
    return None
