"""Which webs are the same but for their letters and the order of their ties."""

from webreckon.shapes import LETTERS
from webreckon.webs import check_web
from webreckon.webs import in_order
from webreckon.webs import with_letters


def all_orders(letters):
    """All strings of the letters, each once, in the order of strings."""
    orders = [""]
    for _ in letters:
        orders = [order + letter for order in orders for letter in letters if letter not in order]
    return orders


def counts_of_ties(web):
    counts = {}
    for tie in web.ties:
        counts[tie] = counts.get(tie, 0) + 1
    return counts


def goes_on(counts, other_counts, places, letters):
    """Whether the last of the letters has as many ties to those ahead of it as the place with its index."""
    last = letters[-1]
    if last in letters[:-1]:
        return False
    place = places[len(letters) - 1]
    for other_place, letter in zip(places, letters):
        many = counts.get(in_order(other_place + place), 0)
        if many != other_counts.get(in_order(letter + last), 0):
            return False
    return True


def renamings(web, other_web):
    """All strings of letters, in order, by which the web has the places and ties of the other one."""
    if len(web.places) != len(other_web.places) or len(web.ties) != len(other_web.ties):
        return []
    counts = counts_of_ties(web)
    other_counts = counts_of_ties(other_web)
    rows = [""]
    for _ in web.places:
        longer = [row + letter for row in rows for letter in other_web.places]
        rows = [row for row in longer if goes_on(counts, other_counts, web.places, row)]
    return rows


def plain_text(web):
    """The first text of all webs like this one that have the first letters as places."""
    check_web(web)
    places = LETTERS[:len(web.places)]
    # All these texts are alike in length, so they stand in the order of their rows of ties.
    first = min([sorted(with_letters(web, order).ties) for order in all_orders(places)])
    return " ".join([places, *first])


def are_like(web, other_web):
    """Whether the one, renamed, is the other one but for the order of ties."""
    return renaming(web, other_web) is not None


def renaming(web, other_web):
    """The first string of letters that makes the other one of it, None if there is none."""
    check_web(web)
    check_web(other_web)
    rows = renamings(web, other_web)
    if not rows:
        return None
    return rows[0]


def count_renamings(web):
    """How many strings of letters make the web itself of it."""
    check_web(web)
    return len(renamings(web, web))
