"""Ins and outs: each place of a web is in one time of k, and what is left where of tied places that are in one goes."""

from meanchoice.errors import NoIns, NoNumber
from meanchoice.fractions import is_less, lowest
from meanchoice.kinds import is_within
from meanchoice.webs import need_web

FEWEST_TIMES = 2
MOST_TIMES = 9


def are_begun_ins(web, thing):
    """Whether the thing, anything, is ins for the first places of the web."""
    if not isinstance(thing, tuple) or len(thing) > web[0]:
        return False
    return all([is_within(one, 0, 1) for one in thing])


def need_times(thing):
    """Refuse what is no number of times of which a place is in once."""
    if not is_within(thing, FEWEST_TIMES, MOST_TIMES):
        raise NoNumber("no place is in one time of so many")


def need_begun_ins(web, thing):
    """Refuse what is no begun ins of the web."""
    if not are_begun_ins(web, thing):
        raise NoIns("these are no begun ins of the web")


def need_ins(web, thing):
    """Refuse what is no ins of the web."""
    if not are_begun_ins(web, thing) or len(thing) < web[0]:
        raise NoIns("these are no ins of the web")


def mean_in_less_ties(web, k, begun):
    """The mean of how many places are in less how many ties have both ends in."""
    n, ties = web
    # How often of k times each place is in; both ends of a tie so often of k * k times as the product.
    often = [k * one for one in begun] + [1] * (n - len(begun))
    within = sum([often[i] * often[j] for i, j, weight in ties])
    return lowest(k * sum(often) - within, k * k)


def mean_left(web, k, begun):
    """The mean, where the begun ins go on by k, of how many places are in less how many ties have both ends in."""
    need_web(web)
    need_times(k)
    need_begun_ins(web, begun)
    return mean_in_less_ties(web, k, begun)


def ins_by(web, k):
    """Ins by which the mean never falls: 1 each time where its mean is no less than that of 0."""
    need_web(web)
    need_times(k)
    ins = ()
    while len(ins) < web[0]:
        is_worse = is_less(mean_in_less_ties(web, k, ins + (1,)), mean_in_less_ties(web, k, ins + (0,)))
        ins = ins + (0 if is_worse else 1,)
    return ins


def pruned(web, ins):
    """The places that are left where of each tie, in order, whose ends are both still there the greater end goes."""
    need_web(web)
    need_ins(web, ins)
    still = [one == 1 for one in ins]
    for i, j, weight in web[1]:
        if still[i] and still[j]:
            still[j] = False
    return tuple([place for place, is_there in enumerate(still) if is_there])
