"""Families: lists of choosings that, where they are even, mean the same as all choosings do."""

from meanchoice.errors import NoChoosing, NoNumber
from meanchoice.fractions import lowest
from meanchoice.kinds import is_within
from meanchoice.sheets import MOST_PLACES, are_all_ways, need_sheet, need_ways, weight_kept

MOST_OF_A_FAMILY = 4096


def is_family(ways, thing):
    """Whether the thing, anything, is a family of these ways."""
    if not isinstance(thing, list) or not 1 <= len(thing) <= MOST_OF_A_FAMILY:
        return False
    return all([are_all_ways(ways, one) for one in thing])


def parted_by_way(groups, place, many):
    """The groups of choosings, each parted into those of each way of the place."""
    return [[one for one in group if one[place] == way] for group in groups for way in range(many)]


def are_even_from(ways, groups, first, k):
    """Whether, for each k places from the first on, their ways together part all the groups into like ones."""
    if k == 0:
        return True
    for place in range(first, len(ways) - k + 1):
        parts = parted_by_way(groups, place, ways[place])
        # What is uneven by some places is so by more of them, too.
        if any([len(part) != len(parts[0]) for part in parts]):
            return False
        if not are_even_from(ways, parts, place + 1, k - 1):
            return False
    return True


def is_even(ways, family, k):
    """Whether the list is a family by which, for each k places, each way of theirs together stands as often."""
    need_ways(ways)
    if not is_within(k, 0, len(ways)):
        raise NoNumber("there are no so many places")
    return is_family(ways, family) and are_even_from(ways, [family], 0, k)


def family_worths(sheet, family):
    """The worths of the family's choosings, one by one."""
    need_sheet(sheet)
    ways, wishes = sheet
    if not is_family(ways, family):
        raise NoChoosing("this is no family of choosings of the sheet")
    return [weight_kept(wishes, one) for one in family]


def family_mean(sheet, family):
    """The mean of the worths of the family's choosings."""
    worths = family_worths(sheet, family)
    return lowest(sum(worths), len(worths))


def best_of(sheet, family):
    """The first of the family's choosings that are worth most."""
    worths = family_worths(sheet, family)
    best = family[worths.index(max(worths))]
    # What is told is a new tuple, not the one that was handed in.
    return tuple(list(best))


def has_odd_ones(number):
    """Whether the number's figures by twos have an odd number of ones."""
    is_odd = False
    while number > 0:
        if number % 2 == 1:
            is_odd = not is_odd
        number //= 2
    return is_odd


def twos(n):
    """A family of n places of two ways that is even by 2, of as many choosings as the least power of two above n."""
    if not is_within(n, 0, MOST_PLACES):
        raise NoNumber("there are no so many places")
    many = 1
    while many <= n:
        many *= 2
    return [tuple([1 if has_odd_ones(number & (place + 1)) else 0 for place in range(n)]) for number in range(many)]
