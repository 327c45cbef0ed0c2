"""Means: what a begun choosing is worth over all its goings-on, and how often a wish is kept by them.

Within, numbers tell how often ways count: for each place of a sheet one number for each of its ways, as shares do.
"""

from meanchoice.fractions import is_less, lowest, plus, product, times
from meanchoice.sheets import need_begun, need_sheet, need_wish_number


def way_alone(many, way):
    """The numbers of a place of so many ways at which this way alone counts."""
    return [1 if other == way else 0 for other in range(many)]


def begun_numbers(ways, begun):
    """The numbers by which each choosing that begins so counts once, and no other one does."""
    set_ones = [way_alone(many, way) for many, way in zip(ways, begun)]
    return set_ones + [[1] * many for many in ways[len(begun):]]


def kept_by(numbers, wish):
    """How often, in the mean by the numbers, the wish is kept: a fraction."""
    kind, weight, parts = wish
    every = [sum(numbers[place]) for place, some in parts]
    met = [sum([numbers[place][way] for way in some]) for place, some in parts]
    # Places are apart from one another, so what happens at all parts at once is a product.
    if kind == "all":
        return lowest(product(met), product(every))
    missed = [whole - part for whole, part in zip(every, met)]
    return lowest(product(every) - product(missed), product(every))


def mean_by_numbers(wishes, numbers):
    """The mean worth by the numbers, a fraction."""
    total = lowest(0, 1)
    for wish in wishes:
        total = plus(total, times((wish[1], 1), kept_by(numbers, wish)))
    return total


def with_way(numbers, place, way):
    """The numbers with this way alone at the place, the other places as they are."""
    changed = list(numbers)
    changed[place] = way_alone(len(numbers[place]), way)
    return changed


def means_by_way(wishes, numbers, place):
    """For each way of the place the mean by the numbers where it alone counts there."""
    return [mean_by_numbers(wishes, with_way(numbers, place, way)) for way in range(len(numbers[place]))]


def greatest_way(wishes, numbers, place):
    """Of the ways of the place that count, the least one of greatest mean."""
    told = means_by_way(wishes, numbers, place)
    best = None
    for way, number in enumerate(numbers[place]):
        if number > 0 and (best is None or is_less(told[best], told[way])):
            best = way
    return best


def rounded_by(wishes, numbers):
    """The choosing that takes, place by place, of the ways that count the least one of greatest mean."""
    ways = []
    for place in range(len(numbers)):
        way = greatest_way(wishes, numbers, place)
        numbers = with_way(numbers, place, way)
        ways.append(way)
    return tuple(ways)


def mean(sheet, begun):
    """The mean of the worths of all choosings that begin so."""
    need_sheet(sheet)
    need_begun(sheet, begun)
    ways, wishes = sheet
    return mean_by_numbers(wishes, begun_numbers(ways, begun))


def kept_mean(sheet, number, begun):
    """How often, in the mean of all choosings that begin so, the wish of this number is kept."""
    need_sheet(sheet)
    need_begun(sheet, begun)
    need_wish_number(sheet, number)
    ways, wishes = sheet
    return kept_by(begun_numbers(ways, begun), wishes[number])
