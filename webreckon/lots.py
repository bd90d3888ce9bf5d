"""Lots of ties: their pieces, rank and spare, and the lots of special kinds."""

from webreckon.shapes import check_lot
from webreckon.webs import check_web
from webreckon.webs import marks


def check_web_and_lot(web, lot):
    check_web(web)
    check_lot(web, lot)


def lot_of_all(web):
    return tuple(range(len(web.ties)))


def without(lot, index):
    """The lot but for one tie."""
    return tuple([other for other in lot if other != index])


def outside_of(web, lot):
    """The lot of all ties that are not in this one."""
    return tuple([index for index in range(len(web.ties)) if index not in lot])


def lots_within(lot):
    """All lots that have no ties but those of this one, itself included."""
    lots = [()]
    for index in lot:
        lots = lots + [shorter + (index,) for shorter in lots]
    return lots


def all_lots(web):
    return lots_within(lot_of_all(web))


def all_herds(web):
    herds = [""]
    for place in web.places:
        herds = herds + [herd + place for herd in herds]
    return herds


def crossing(web, herd):
    """The lot of the ties with one end in the herd and the other one outside."""
    lot = []
    for index, tie in enumerate(web.ties):
        if (tie[0] in herd) != (tie[1] in herd):
            lot.append(index)
    return tuple(lot)


def herds_of(web, lot):
    """The pieces of a lot that is known to be one."""
    row = marks(web, lot)
    herds = {mark: "" for mark in row}
    for place, mark in zip(web.places, row):
        herds[mark] = herds[mark] + place
    return tuple(herds.values())


def are_joined(web, lot, place, other_place):
    """Whether both places are in one piece of the lot."""
    row = marks(web, lot)
    return row[web.places.index(place)] == row[web.places.index(other_place)]


def rank_of(web, lot):
    """The rank of a lot that is known to be one: each piece has one place that is its own mark."""
    return len([mark for mark, place in zip(marks(web, lot), web.places) if mark != place])


def spare_of(web, lot):
    return len(lot) - rank_of(web, lot)


def full_rank(web):
    return rank_of(web, lot_of_all(web))


def is_tree_lot(web, lot):
    return len(lot) == rank_of(web, lot) == full_rank(web)


def is_ring_lot(web, lot):
    """Lots within a wood are woods, so it is enough to leave out one tie."""
    if spare_of(web, lot) != 1:
        return False
    return all([spare_of(web, without(lot, index)) == 0 for index in lot])


def is_bond_lot(web, lot):
    """What is left and one tie of a bond has all pieces again, so a bond parts just one piece."""
    rest = outside_of(web, lot)
    rank_of_all = full_rank(web)
    if rank_of(web, rest) != rank_of_all - 1:
        return False
    return all([rank_of(web, rest + (index,)) == rank_of_all for index in lot])


def pieces(web, lot):
    """The tuple of the herds that the ties of the lot join."""
    check_web_and_lot(web, lot)
    return herds_of(web, lot)


def rank(web, lot):
    check_web_and_lot(web, lot)
    return rank_of(web, lot)


def spare(web, lot):
    check_web_and_lot(web, lot)
    return spare_of(web, lot)


def is_wood(web, lot):
    check_web_and_lot(web, lot)
    return spare_of(web, lot) == 0


def is_hold(web, lot):
    check_web_and_lot(web, lot)
    return rank_of(web, lot) == full_rank(web)


def is_ring(web, lot):
    check_web_and_lot(web, lot)
    return is_ring_lot(web, lot)


def is_bond(web, lot):
    check_web_and_lot(web, lot)
    return is_bond_lot(web, lot)


def is_even(web, lot):
    """Whether each place is an end of its ties an even number of times, a loop counting twice."""
    check_web_and_lot(web, lot)
    ends = "".join([web.ties[index] for index in lot])
    return all([ends.count(place) % 2 == 0 for place in web.places])


def is_two_sided(web, lot):
    """Whether it has just the ties with one end in some herd."""
    check_web_and_lot(web, lot)
    return any([crossing(web, herd) == lot for herd in all_herds(web)])


def rings(web):
    """The tuple of all rings, ascending."""
    check_web(web)
    return tuple(sorted([lot for lot in all_lots(web) if is_ring_lot(web, lot)]))


def bonds(web):
    """The tuple of all bonds, ascending."""
    check_web(web)
    return tuple(sorted([lot for lot in all_lots(web) if is_bond_lot(web, lot)]))


def bridges(web):
    """The lot of the ties that are bonds by themselves."""
    check_web(web)
    return tuple([index for index in range(len(web.ties)) if is_bond_lot(web, (index,))])


def blocks(web):
    """The tuple of all blocks, in the order of their first ties."""
    check_web(web)
    first = list(range(len(web.ties)))
    for ring in rings(web):
        joined = [first[index] for index in ring]
        first = [min(joined) if mark in joined else mark for mark in first]
    lots = [tuple([index for index, mark in enumerate(first) if mark == start]) for start in range(len(first))]
    return tuple([lot for lot in lots if lot])
