"""Sets apart by orders: the places chosen by an order, the mean of a begun one, and an order whose means never fall."""

from meanchoice.errors import NoOrder
from meanchoice.fractions import is_less, lowest, plus
from meanchoice.kinds import are_rising, is_within
from meanchoice.webs import need_web, ties_at


def is_begun_order(n, thing):
    """Whether the thing, anything, is a tuple of some of n places, each once."""
    if not isinstance(thing, tuple) or not all([is_within(place, 0, n - 1) for place in thing]):
        return False
    return are_rising(sorted(thing))


def need_begun_order(web, thing):
    """Refuse what is no begun order of the web."""
    if not is_begun_order(web[0], thing):
        raise NoOrder("this is no begun order of the web")


def need_order(web, thing):
    """Refuse what is no order of the web."""
    if not is_begun_order(web[0], thing) or len(thing) < web[0]:
        raise NoOrder("this is no order of the web")


def tied_to(web, place):
    """The places tied to the place."""
    return [other for other, weight in ties_at(web[1], place)]


def chosen_by(web, order):
    """The places that come in the order ahead of all those tied to them, rising."""
    need_web(web)
    need_order(web, order)
    spots = {place: spot for spot, place in enumerate(order)}
    ahead = [all([spots[place] < spots[other] for other in tied_to(web, place)]) for place in range(web[0])]
    return tuple([place for place, is_ahead in enumerate(ahead) if is_ahead])


def chance(web, begun, place):
    """How often, in the mean of all orders that begin so, the place is chosen: a fraction."""
    around = tied_to(web, place)
    ahead = begun[:begun.index(place)] if place in begun else begun
    if any([other in ahead for other in around]):
        return lowest(0, 1)
    if place in begun:
        return lowest(1, 1)
    # All those tied to it are to come, too, and each of them and it is as often the first one.
    return lowest(1, 1 + len(around))


def mean_chosen(web, begun):
    """How many places are chosen, in the mean of all orders that begin so: a fraction."""
    total = lowest(0, 1)
    for place in range(web[0]):
        total = plus(total, chance(web, begun, place))
    return total


def mean_of(web, begun):
    """The mean, over all orders that begin so, of how many places are chosen."""
    need_web(web)
    need_begun_order(web, begun)
    return mean_chosen(web, begun)


def next_place(web, begun):
    """Of the places that are not begun, the least one of greatest mean."""
    left = [place for place in range(web[0]) if place not in begun]
    told = [mean_chosen(web, begun + (place,)) for place in left]
    best = 0
    for at, one in enumerate(told):
        if is_less(told[best], one):
            best = at
    return left[best]


def order_by(web):
    """The order that takes, one by one, the least place of greatest mean; its means never fall."""
    need_web(web)
    order = ()
    while len(order) < web[0]:
        order = order + (next_place(web, order),)
    return order
