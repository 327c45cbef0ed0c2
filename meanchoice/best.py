"""The best of small ones, by going through all: sides, sets apart, places that hit all sets."""

from meanchoice.chosen import MOST_CHOOSINGS, all_choosings
from meanchoice.errors import TooMany
from meanchoice.fractions import product
from meanchoice.hits import missed_by, need_book
from meanchoice.sides import weight_parted
from meanchoice.webs import need_sides_number, need_web


def best_sides(web, k):
    """The most that sides part, and the first such sides, as Python sorts."""
    need_web(web)
    need_sides_number(k)
    n, ties = web
    ways = (k,) * n
    if product(ways) > MOST_CHOOSINGS:
        raise TooMany("there are too many sides to go through")
    every = all_choosings(ways)
    told = [weight_parted(ties, sides) for sides in every]
    return (max(told), every[told.index(max(told))])


def all_sets(n):
    """All rising tuples of some of n places."""
    told = [()]
    for place in range(n):
        told = told + [one + (place,) for one in told]
    return told


def are_apart(ties, places):
    """Whether no two of the places are tied."""
    return not any([i in places and j in places for i, j, weight in ties])


def greatest_apart(web):
    """Of the sets of most places no two of which are tied the first one, as Python sorts."""
    need_web(web)
    n, ties = web
    apart = [places for places in all_sets(n) if are_apart(ties, places)]
    return min(apart, key=lambda places: (-len(places), places))


def fewest_hits(book):
    """Of the sets of fewest places that miss no set of the book the first one, as Python sorts."""
    need_book(book)
    n, sets = book
    hitting = [places for places in all_sets(n) if not missed_by(sets, places)]
    return min(hitting, key=lambda places: (len(places), places))
