"""Hands: walkers that turn the hands of places lead one tree to another one."""

from webreckon.errors import TooMany
from webreckon.heaps import check_not_below
from webreckon.heaps import check_whole
from webreckon.lasting import lasting_alike
from webreckon.limits import MOST_WALKERS
from webreckon.lots import crossing
from webreckon.shapes import check_heap
from webreckon.shapes import check_place
from webreckon.trees import check_tree
from webreckon.webs import check_web
from webreckon.webs import other_end


def hands_of(web, tree, bank):
    """A dict from each place but the bank to the first tie on its way there."""
    hands = {}
    reached = bank
    while len(reached) < len(web.places):
        index = [other for other in crossing(web, reached) if other in tree][0]
        tie = web.ties[index]
        place = tie[1] if tie[0] in reached else tie[0]
        hands[place] = index
        reached += place
    return hands


def tree_with(hands):
    return tuple(sorted(hands.values()))


def next_tie(web, index, place):
    """The tie to which the hand of the place turns from this one."""
    ties = [other for other in range(len(web.ties)) if place in web.ties[other]]
    later = [other for other in ties if other > index]
    return later[0] if later else ties[0]


def walk(web, hands, place, bank):
    """The hands behind a walker from the place, and the number of its steps."""
    turned = dict(hands)
    steps = 0
    while place != bank:
        turned[place] = next_tie(web, turned[place], place)
        place = other_end(web, turned[place], place)
        steps += 1
    return turned, steps


def walked(web, tree, place, bank):
    """The tree behind a walker from the place, and the number of its steps."""
    check_web(web)
    check_tree(web, tree)
    check_place(web, place)
    check_place(web, bank)
    check_whole(web)
    hands, steps = walk(web, hands_of(web, tree, bank), place, bank)
    return (tree_with(hands), steps)


def led(web, tree, heap, bank):
    """The tree behind walkers from all places but the bank, as many as the heap has there."""
    check_web(web)
    check_tree(web, tree)
    check_heap(web, heap)
    check_place(web, bank)
    check_whole(web)
    check_not_below(web, heap, bank)
    starts = [(place, many) for place, many in zip(web.places, heap) if place != bank]
    if sum([many for _, many in starts]) > MOST_WALKERS:
        raise TooMany(MOST_WALKERS)
    hands = hands_of(web, tree, bank)
    for place, many in starts:
        for _ in range(many):
            hands = walk(web, hands, place, bank)[0]
    return tree_with(hands)


def leading_heap(web, tree, other_tree, bank):
    """The lasting heap that leads the first tree to the other one.

    If at each place as many walkers as are needed turn its hand to that of the other tree, they stand at other
    places then. What stood there, less what stands there then, leads as the turning did; so does what is alike.
    """
    check_web(web)
    check_tree(web, tree)
    check_tree(web, other_tree)
    check_place(web, bank)
    check_whole(web)
    goals = hands_of(web, other_tree, bank)
    told = {place: 0 for place in web.places}
    for place, hand in hands_of(web, tree, bank).items():
        while hand != goals[place]:
            hand = next_tie(web, hand, place)
            told[place] += 1
            told[other_end(web, hand, place)] -= 1
    return lasting_alike(web, list(told.values()), bank)
