"""Shares: how often each way of each place counts, the means by them, and the choosing rounded by them."""

from meanchoice.errors import NoPlace, NoShares
from meanchoice.kinds import is_tuple_of, is_within
from meanchoice.means import mean_by_numbers, means_by_way, rounded_by
from meanchoice.sheets import need_sheet

MOST_SHARE = 99


def are_place_shares(many, thing):
    """Whether the thing, anything, is the shares of a place of so many ways."""
    if not is_tuple_of(thing, many) or not all([is_within(number, 0, MOST_SHARE) for number in thing]):
        return False
    return any([number > 0 for number in thing])


def are_shares_of(ways, thing):
    """Whether the thing, anything, is shares of these ways."""
    if not is_tuple_of(thing, len(ways)):
        return False
    return all([are_place_shares(many, numbers) for many, numbers in zip(ways, thing)])


def are_shares(sheet, thing):
    """Whether the thing, anything, is shares of the sheet."""
    need_sheet(sheet)
    return are_shares_of(sheet[0], thing)


def need_shares(sheet, thing):
    """Refuse what is no shares of the sheet."""
    if not are_shares_of(sheet[0], thing):
        raise NoShares("these are no shares of the sheet")


def mean_by(sheet, shares):
    """The mean worth where each way counts as often as its share."""
    need_sheet(sheet)
    need_shares(sheet, shares)
    return mean_by_numbers(sheet[1], shares)


def ways_by(sheet, shares, place):
    """For each way of the place the mean by shares in which it alone counts there."""
    need_sheet(sheet)
    need_shares(sheet, shares)
    if not is_within(place, 0, len(shares) - 1):
        raise NoPlace("the sheet has no such place")
    return means_by_way(sheet[1], shares, place)


def rounded(sheet, shares):
    """The choosing that takes, place by place, of the ways with a share the least one of greatest mean."""
    need_sheet(sheet)
    need_shares(sheet, shares)
    return rounded_by(sheet[1], shares)
