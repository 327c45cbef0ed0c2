"""Choosings by their means: the means along one, whether it never falls, one that does not, the best and the worst."""

from meanchoice.errors import TooMany
from meanchoice.fractions import is_less, product
from meanchoice.means import begun_numbers, mean_by_numbers, rounded_by
from meanchoice.sheets import need_choosing, need_sheet, weight_kept

MOST_CHOOSINGS = 1024


def means_of(sheet, choosing):
    """The means of the choosing's first ways, of none, of one, and so on to all."""
    need_sheet(sheet)
    need_choosing(sheet, choosing)
    ways, wishes = sheet
    return [mean_by_numbers(wishes, begun_numbers(ways, choosing[:many])) for many in range(len(ways) + 1)]


def never_falls(sheet, choosing):
    """Whether none of the means along the choosing is less than the one ahead."""
    told = means_of(sheet, choosing)
    return not any([is_less(later, ahead) for ahead, later in zip(told, told[1:])])


def chosen(sheet):
    """The choosing that takes, place by place, the least way of greatest mean; it never falls."""
    need_sheet(sheet)
    ways, wishes = sheet
    return rounded_by(wishes, begun_numbers(ways, ()))


def all_choosings(ways):
    """All choosings of the ways, as Python sorts them."""
    told = [()]
    for many in ways:
        told = [one + (way,) for one in told for way in range(many)]
    return told


def all_worths(sheet):
    """Tuples (worth, choosing) of all choosings of the sheet, where they are not too many."""
    need_sheet(sheet)
    ways, wishes = sheet
    if product(ways) > MOST_CHOOSINGS:
        raise TooMany("the sheet has too many choosings to go through")
    return [(weight_kept(wishes, one), one) for one in all_choosings(ways)]


def most(sheet):
    """The most that a choosing is worth, and such a one."""
    return max(all_worths(sheet))


def least(sheet):
    """The least that a choosing is worth, and such a one."""
    return min(all_worths(sheet))
