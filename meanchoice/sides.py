"""Sides of a web by k: what they part, sides told place by place, and what settled ones come of sides."""

from meanchoice.errors import NoSides
from meanchoice.sheets import are_all_ways
from meanchoice.webs import need_sides_number, need_web, ties_at


def need_sides(web, k, thing):
    """Refuse what is no sides of the web by k."""
    # Sides are a choosing where each place has k ways.
    if not are_all_ways((k,) * web[0], thing):
        raise NoSides("these are no sides of the web")


def weight_parted(ties, sides):
    """The sum of the weights of the ties whose ends have unlike sides, both known to be of one web."""
    return sum([weight for i, j, weight in ties if sides[i] != sides[j]])


def parted(web, k, sides):
    """The sum of the weights of the ties whose ends have unlike sides."""
    need_web(web)
    need_sides_number(k)
    need_sides(web, k, sides)
    return weight_parted(web[1], sides)


def parted_from(around, sides, side):
    """The sum of the weights of those ends around that have another side."""
    return sum([weight for other, weight in around if sides[other] != side])


def best_side(around, sides, k):
    """The least side from which the most of what is around is parted."""
    told = [parted_from(around, sides, side) for side in range(k)]
    return told.index(max(told))


def sides_by(web, k):
    """Sides that put each place, one by one, where the most to the places ahead is parted."""
    need_web(web)
    need_sides_number(k)
    n, ties = web
    sides = []
    for place in range(n):
        ahead = [(other, weight) for other, weight in ties_at(ties, place) if other < place]
        sides.append(best_side(ahead, sides, k))
    return tuple(sides)


def first_unsettled(web, k, sides):
    """The least place by another side of which more is parted; None where there is none."""
    n, ties = web
    for place in range(n):
        around = ties_at(ties, place)
        best = best_side(around, sides, k)
        if parted_from(around, sides, sides[place]) < parted_from(around, sides, best):
            return place
    return None


def are_settled(web, k, sides):
    """Whether no place has another side by which more is parted."""
    need_web(web)
    need_sides_number(k)
    need_sides(web, k, sides)
    return first_unsettled(web, k, sides) is None


def settled(web, k, sides):
    """What comes of the sides where the least unsettled place is put to its best side, again and again."""
    need_web(web)
    need_sides_number(k)
    need_sides(web, k, sides)
    now = list(sides)
    place = first_unsettled(web, k, now)
    # Each step parts more than was parted ahead of it, so the steps come to an end.
    while place is not None:
        now[place] = best_side(ties_at(web[1], place), now, k)
        place = first_unsettled(web, k, now)
    return tuple(now)
