"""Certificates: for each question the claim that is true, and a certificate that shows it."""

from webreckon.currents import barring_herd
from webreckon.currents import bounded
from webreckon.currents import heights_of_part
from webreckon.currents import parted
from webreckon.dyes import check_web_and_number
from webreckon.dyes import first_dye
from webreckon.heaps import check_heap_and_bank
from webreckon.heaps import gives_between
from webreckon.heaps import gives_from
from webreckon.heaps import least_of
from webreckon.heaps import ties_to
from webreckon.heights import heights_for
from webreckon.heights import ties_at
from webreckon.lasting import check_lasting
from webreckon.leanings import order_of
from webreckon.leanings import ring_or_cut
from webreckon.likeness import renaming
from webreckon.pulls import heights_between
from webreckon.pulls import pull
from webreckon.pulls import steps
from webreckon.pulls import steps_to
from webreckon.ranks import free_heap
from webreckon.ranks import rank
from webreckon.scores import barring
from webreckon.scores import leaning_for
from webreckon.scores import turning_rings
from webreckon.table import table
from webreckon.trees import count_trees
from webreckon.trees import least_length
from webreckon.trees import least_tree
from webreckon.ways import amount
from webreckon.ways import apart
from webreckon.ways import carried
from webreckon.ways import narrowest
from webreckon.ways import rooms_of_one


def ring_in(web, leaning):
    """Some ring of arrows of a leaning that is not ringless."""
    told = [ring_or_cut(web, leaning, index) for index in range(len(web.ties))]
    return [lot for word, lot in told if word == "ring"][0]


def unlikeness(web, heap, other_heap):
    """A number and a row of integers that bar gives from the one heap to the other one.

    If the sums are the same, gives in fractions lead there, and some place does not give a whole number of times. With
    the heights for one unit that is put in at this place as factors, the differences of the heaps tell how often.
    """
    if sum(heap) != sum(other_heap):
        return (0, (1,) * len(web.places))
    bank = web.places[0]
    tops, bottom = heights_for(web, [one - other for one, other in zip(heap, other_heap)], bank)
    uneven = [place for place, top in zip(web.places, tops) if top % bottom != 0]
    factors, _ = heights_for(web, [1 if place == uneven[0] else 0 for place in web.places], bank)
    return (bottom, tuple(factors))


def lasting_order(web, heap, bank):
    """The places but the bank, each of which must give when the bank and those ahead of it have given."""
    order = ""
    while len(order) < len(web.places) - 1:
        reached = bank + order
        for place, number in zip(web.places, heap):
            if place not in reached and number + ties_to(web, place, reached) >= ties_at(web, place):
                order += place
                break
    return order


def certify_like(web, other_web):
    """Whether the webs are like."""
    letters = renaming(web, other_web)
    if letters is None:
        return (("unlike", web.text(), other_web.text()), ())
    return (("like", web.text(), other_web.text()), letters)


def certify_trees(web):
    """How many trees there are."""
    many = count_trees(web)
    return (("trees", web.text(), many), ())


def certify_table(web):
    """The table."""
    rows = table(web)
    return (("table", web.text(), rows), ())


def certify_least_tree(web, lengths):
    """The least sum of the lengths of a tree."""
    least = least_length(web, lengths)
    return (("least tree", web.text(), lengths, least), least_tree(web, lengths))


def certify_leaning(web, leaning):
    """Whether the leaning is ringless."""
    order = order_of(web, leaning)
    if order is None:
        return (("ring", web.text(), leaning), ring_in(web, leaning))
    return (("ringless", web.text(), leaning), order)


def certify_row(web, row):
    """Whether this is a score row."""
    leaning = leaning_for(web, row)
    if leaning is None:
        return (("no row", web.text(), row), barring(web, row))
    return (("row", web.text(), row), leaning)


def certify_turned(web, leaning, other_leaning):
    """That both leanings have one score row, None if they have not."""
    lots = turning_rings(web, leaning, other_leaning)
    if lots is None:
        return None
    return (("turned", web.text(), leaning, other_leaning), lots)


def certify_dyed(web, number):
    """Whether there is a dye with so many figures."""
    check_web_and_number(web, number)
    dye = first_dye(web, number)
    if dye is None:
        return (("not dyed", web.text(), number), ())
    return (("dyed", web.text(), number), dye)


def certify_current(web, bounds):
    """Whether there is a current within the bounds."""
    current = bounded(web, bounds)
    if current is None:
        return (("barred", web.text(), bounds), barring_herd(web, bounds))
    return (("current", web.text(), bounds), current)


def certify_parted(web, values):
    """The current that, with a rise, makes the values."""
    current, _ = parted(web, values)
    return (("parted", web.text(), values, current), heights_of_part(web, values))


def certify_alike(web, heap, other_heap):
    """Whether the heaps are alike."""
    gives = gives_between(web, heap, other_heap)
    if gives is None:
        return (("not alike", web.text(), heap, other_heap), unlikeness(web, heap, other_heap))
    return (("alike", web.text(), heap, other_heap), gives)


def certify_free(web, heap):
    """Whether the heap is free."""
    found = free_heap(web, heap)
    if found is not None:
        return (("free", web.text(), heap), gives_from(web, heap, found))
    bank = web.places[0]
    return (("debt", web.text(), heap), (bank, gives_from(web, heap, least_of(web, heap, bank))))


def certify_rank(web, heap):
    """The rank of the heap."""
    number = rank(web, heap)
    return (("rank", web.text(), heap, number), ())


def certify_lasting(web, heap, bank):
    """That the heap is lasting."""
    check_heap_and_bank(web, heap, bank)
    check_lasting(web, heap, bank)
    told = tuple([0 if place == bank else number for place, number in zip(web.places, heap)])
    return (("lasting", web.text(), bank, told), lasting_order(web, heap, bank))


def certify_pull(web, place, other_place):
    """The pull between two unlike places, None if there is none."""
    told = pull(web, place, other_place)
    if told is None or place == other_place:
        return None
    return (("pull", web.text(), place, other_place, told), heights_between(web, place, other_place))


def certify_steps(web, place, other_place):
    """The steps from one place to another one, None if there are none."""
    told = steps(web, place, other_place)
    if told is None or place == other_place:
        return None
    return (("steps", web.text(), place, other_place, told), steps_to(web, other_place))


def certify_amount(web, rooms, place, other_place):
    """The greatest amount from one place to another one."""
    most = amount(web, rooms, place, other_place)
    shown = (carried(web, rooms, place, other_place), narrowest(web, rooms, place, other_place))
    return (("amount", web.text(), rooms, place, other_place, most), shown)


def certify_apart(web, place, other_place):
    """The greatest number of ways that are apart."""
    lots = apart(web, place, other_place)
    herd = narrowest(web, rooms_of_one(web), place, other_place)
    return (("apart", web.text(), place, other_place, len(lots)), (lots, herd))
