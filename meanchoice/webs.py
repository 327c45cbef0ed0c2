"""Webs (n, ties): places tied to one another by weights, and the sheet of a web by k sides."""

from meanchoice.errors import NoNumber, NoWeb, TooMany
from meanchoice.kinds import are_rising, is_tuple_of, is_within
from meanchoice.sheets import MOST_PLACES, MOST_WEIGHT, MOST_WISHES

FEWEST_SIDES = 2
MOST_SIDES = 4


def is_tie(n, thing):
    """Whether the thing, anything, is a tie (i, j, weight) of a web of n places."""
    if not is_tuple_of(thing, 3):
        return False
    i, j, weight = thing
    return is_within(j, 0, n - 1) and is_within(i, 0, j - 1) and is_within(weight, 1, MOST_WEIGHT)


def is_web(thing):
    """Whether the thing, anything, is a web (n, ties)."""
    if not is_tuple_of(thing, 2):
        return False
    n, ties = thing
    if not is_within(n, 0, MOST_PLACES) or not isinstance(ties, tuple):
        return False
    # The pairs alone have to rise: two ties of one pair are none of a web, whatever their weights.
    return all([is_tie(n, tie) for tie in ties]) and are_rising([(i, j) for i, j, weight in ties])


def need_web(thing):
    """Refuse what is no web."""
    if not is_web(thing):
        raise NoWeb("this is no web")


def need_sides_number(thing):
    """Refuse what is no number of sides."""
    if not is_within(thing, FEWEST_SIDES, MOST_SIDES):
        raise NoNumber("there are no so many sides")


def ties_at(ties, place):
    """Tuples (other end, weight) of the ties at the place, those to places ahead of it first."""
    ahead = [(i, weight) for i, j, weight in ties if j == place]
    return ahead + [(j, weight) for i, j, weight in ties if i == place]


def side_wish(tie, k, side):
    """The wish that the ends of the tie are not both on this side of k."""
    i, j, weight = tie
    others = tuple([other for other in range(k) if other != side])
    return ("some", weight, ((i, others), (j, others)))


def sheet_of(web, k):
    """The sheet whose choosings are sides of the web, worth what they part and k - 1 times all weights."""
    need_web(web)
    need_sides_number(k)
    n, ties = web
    if len(ties) * k > MOST_WISHES:
        raise TooMany("a sheet has no room for so many wishes")
    return ((k,) * n, tuple([side_wish(tie, k, side) for tie in ties for side in range(k)]))
