"""Pairs of claims and certificates, as the program tells them for thrown questions."""

from samples import is_for_heaps
from webreckon import certificates as told


def thrown(many, dice, low, high):
    return tuple(low + dice.below(high - low + 1) for _ in range(many))


def thrown_leaning(web, dice):
    return "".join("+-"[dice.below(2)] for _ in web.ties)


def fractions(many, dice):
    rows = ((0, 1), (1, 1), (-1, 1), (1, 2), (-2, 3), (5, 1), (3, 4), (-7, 2))
    return tuple(rows[dice.below(len(rows))] for _ in range(many))


def bounds(many, dice, low, high):
    rows = [sorted(thrown(2, dice, low, high)) for _ in range(many)]
    return tuple((one, two) for one, two in rows)


def heap_with_small_sum(web, dice):
    rest = thrown(len(web.places) - 1, dice, -2, 3)
    return (dice.below(11) - 3 - sum(rest), *rest)


def ends(web):
    return [(one, two) for one in web.places for two in web.places if one != two]


def papers_of_leanings(web, dice):
    for _ in range(2):
        leaning, other = thrown_leaning(web, dice), thrown_leaning(web, dice)
        yield told.certify_leaning(web, leaning)
        yield told.certify_turned(web, leaning, other)
        yield told.certify_turned(web, leaning, leaning)
        yield told.certify_row(web, tuple(thrown(len(web.places), dice, 0, 3)))
    yield told.certify_leaning(web, "+" * len(web.ties))
    yield told.certify_turned(web, "+" * len(web.ties), "-" * len(web.ties))
    firsts = [tie[0] for tie in web.ties]
    row = tuple(firsts.count(place) for place in web.places)
    yield told.certify_row(web, row)
    yield told.certify_row(web, row[::-1])


def papers_of_ties(web, dice):
    many = len(web.ties)
    yield told.certify_least_tree(web, thrown(many, dice, -4, 4))
    for low, high in ((-2, 2), (0, 2), (1, 3)):
        yield told.certify_current(web, bounds(many, dice, low, high))
    yield told.certify_parted(web, fractions(many, dice))
    for one, two in ends(web)[::5]:
        yield told.certify_amount(web, thrown(many, dice, 0, 4), one, two)
        yield told.certify_apart(web, one, two)


def papers_of_heaps(web, dice):
    many = len(web.places)
    if not is_for_heaps(web):
        return
    for _ in range(2):
        heap, other = thrown(many, dice, -3, 3), thrown(many, dice, -3, 3)
        yield told.certify_alike(web, heap, other)
        yield told.certify_alike(web, heap, (*other[1:], sum(heap) - sum(other[1:])))
        yield told.certify_free(web, heap_with_small_sum(web, dice))
        yield told.certify_rank(web, heap_with_small_sum(web, dice))
    for bank in web.places:
        heap = told_lasting(web, bank)
        yield told.certify_lasting(web, heap, bank)


def told_lasting(web, bank):
    """As much as can be without having to give, and 5 at the bank."""
    return tuple(5 if place == bank else sum(place in tie for tie in web.ties) - 1 for place in web.places)


def papers(web, dice, others):
    """All of one web; None, where there is none, is left out."""
    rows = [told.certify_trees(web), told.certify_table(web)]
    rows += [told.certify_like(web, other) for other in others]
    rows += [told.certify_dyed(web, number) for number in (1, 2, 3, 7)]
    rows += [told.certify_pull(web, one, two) for one, two in ends(web)[::5]]
    rows += [told.certify_steps(web, one, two) for one, two in ends(web)[1::5]]
    rows += [*papers_of_leanings(web, dice), *papers_of_ties(web, dice), *papers_of_heaps(web, dice)]
    return [row for row in rows if row is not None]


def altered_integer(value):
    yield from (value + 1, value - 1, -value - 1, str(value), (value,), [value], None, value + 10 ** 59)
    yield from (bool(value), True, False)


def altered_string(value):
    yield from (value[:-1], value[1:], value + value[-1:], value[::-1], value.upper() + " ", value + "a", value + " ")
    yield from (list(value), tuple(value), value.encode(), None, 0, "")
    for at, old in enumerate(value):
        for new in {"+": "-", "-": "+"}.get(old, "abch12 "):
            if new != old:
                yield value[:at] + new + value[at + 1:]


def altered_tuple(value):
    yield from (value[:-1], value[1:], value + value[-1:], value + (None,), value + (0,), value[::-1], list(value), None)
    yield from ((value,), "", 0, False)
    for at, part in enumerate(value):
        for other in altered(part):
            yield value[:at] + (other,) + value[at + 1:]


def altered(value):
    """The same with one thing otherwise."""
    if value.__class__ is int:
        yield from altered_integer(value)
    elif value.__class__ is str:
        yield from altered_string(value)
    elif value.__class__ is tuple:
        yield from altered_tuple(value)
    else:
        yield from (0, (), (0, 1), "")
