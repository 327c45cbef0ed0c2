"""Sheets (ways, wishes), their choosings, and what these are worth."""

from meanchoice.errors import NoChoosing, NoNumber, NoSheet, NoWays, NoWish
from meanchoice.kinds import are_rising, are_rising_below, is_tuple_of, is_within

MOST_PLACES = 10
MOST_WAYS = 4
MOST_WISHES = 16
MOST_WEIGHT = 99
KINDS = ("all", "some")


def are_ways(thing):
    """Whether the thing, anything, is the ways of a sheet."""
    if not isinstance(thing, tuple) or len(thing) > MOST_PLACES:
        return False
    return all([is_within(many, 1, MOST_WAYS) for many in thing])


def is_part(ways, thing):
    """Whether the thing, anything, is a part (place, some) for these ways."""
    if not is_tuple_of(thing, 2):
        return False
    place, some = thing
    return is_within(place, 0, len(ways) - 1) and are_rising_below(some, ways[place])


def are_parts(ways, thing):
    """Whether the thing, anything, is a tuple of parts with rising places."""
    if not isinstance(thing, tuple) or not all([is_part(ways, part) for part in thing]):
        return False
    return are_rising([place for place, some in thing])


def is_wish(ways, thing):
    """Whether the thing, anything, is a wish (kind, weight, parts) for these ways."""
    if not is_tuple_of(thing, 3):
        return False
    kind, weight, parts = thing
    return kind in KINDS and is_within(weight, 0, MOST_WEIGHT) and are_parts(ways, parts)


def are_wishes(ways, thing):
    """Whether the thing, anything, is the wishes of a sheet of these ways."""
    if not isinstance(thing, tuple) or len(thing) > MOST_WISHES:
        return False
    return all([is_wish(ways, wish) for wish in thing])


def is_sheet(thing):
    """Whether the thing, anything, is a sheet (ways, wishes)."""
    if not is_tuple_of(thing, 2):
        return False
    ways, wishes = thing
    return are_ways(ways) and are_wishes(ways, wishes)


def are_first_ways(ways, thing):
    """Whether the thing, anything, is a tuple of a way for each of the first places."""
    if not isinstance(thing, tuple) or len(thing) > len(ways):
        return False
    return all([is_within(way, 0, many - 1) for way, many in zip(thing, ways)])


def are_all_ways(ways, thing):
    """Whether the thing, anything, is a tuple of a way for each place."""
    return is_tuple_of(thing, len(ways)) and are_first_ways(ways, thing)


def need_ways(thing):
    """Refuse what is no ways of a sheet."""
    if not are_ways(thing):
        raise NoWays("these are no ways of a sheet")


def need_wish(ways, thing):
    """Refuse what is no wish for these ways."""
    if not is_wish(ways, thing):
        raise NoWish("this is no wish for these ways")


def need_sheet(thing):
    """Refuse what is no sheet."""
    if not is_sheet(thing):
        raise NoSheet("this is no sheet")


def need_begun(sheet, thing):
    """Refuse what is no begun choosing of the sheet."""
    if not are_first_ways(sheet[0], thing):
        raise NoChoosing("this is no begun choosing of the sheet")


def need_choosing(sheet, thing):
    """Refuse what is no choosing of the sheet."""
    if not are_all_ways(sheet[0], thing):
        raise NoChoosing("this is no choosing of the sheet")


def need_wish_number(sheet, thing):
    """Refuse what is not the number of a wish of the sheet."""
    if not is_within(thing, 0, len(sheet[1]) - 1):
        raise NoNumber("no wish of the sheet has this number")


def is_begun(sheet, thing):
    """Whether the thing, anything, is a begun choosing of the sheet."""
    need_sheet(sheet)
    return are_first_ways(sheet[0], thing)


def is_choosing(sheet, thing):
    """Whether the thing, anything, is a choosing of the sheet."""
    need_sheet(sheet)
    return are_all_ways(sheet[0], thing)


def keeps(choosing, wish):
    """Whether the choosing keeps the wish, both known to be of one sheet."""
    kind, weight, parts = wish
    met = [choosing[place] in some for place, some in parts]
    return all(met) if kind == "all" else any(met)


def is_kept(sheet, number, choosing):
    """Whether the wish of this number is kept by the choosing."""
    need_sheet(sheet)
    need_choosing(sheet, choosing)
    need_wish_number(sheet, number)
    return keeps(choosing, sheet[1][number])


def weight_kept(wishes, choosing):
    """The sum of the weights of those wishes that the choosing keeps, all known to be of one sheet."""
    return sum([wish[1] for wish in wishes if keeps(choosing, wish)])


def worth(sheet, choosing):
    """The sum of the weights of the wishes that the choosing keeps."""
    need_sheet(sheet)
    need_choosing(sheet, choosing)
    return weight_kept(sheet[1], choosing)
