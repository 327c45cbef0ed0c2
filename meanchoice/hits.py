"""Books (n, sets): places that are drawn one by one so that each set has one of them."""

from meanchoice.errors import NoBook, NoDraws, NoNumber
from meanchoice.fractions import lowest, product
from meanchoice.kinds import are_rising_below, is_tuple_of, is_within
from meanchoice.sheets import MOST_PLACES

MOST_SETS = 16
MOST_DRAWS = 99


def is_set_below(thing, n):
    """Whether the thing, anything, is a rising tuple of some of n places, not empty."""
    return are_rising_below(thing, n) and len(thing) > 0


def is_book(thing):
    """Whether the thing, anything, is a book (n, sets)."""
    if not is_tuple_of(thing, 2):
        return False
    n, sets = thing
    if not is_within(n, 1, MOST_PLACES) or not isinstance(sets, tuple) or len(sets) > MOST_SETS:
        return False
    return all([is_set_below(one, n) for one in sets])


def need_book(thing):
    """Refuse what is no book."""
    if not is_book(thing):
        raise NoBook("this is no book")


def need_draws(book, thing):
    """Refuse what is no draws of the book's places."""
    if not isinstance(thing, tuple) or len(thing) > MOST_DRAWS:
        raise NoDraws("these are no draws of the book")
    if not all([is_within(place, 0, book[0] - 1) for place in thing]):
        raise NoDraws("not all of these are places of the book")


def need_draws_number(thing):
    """Refuse what is no number of draws."""
    if not is_within(thing, 0, MOST_DRAWS):
        raise NoNumber("there are no so many draws")


def missed_by(sets, draws):
    """Those of the sets that have none of the draws."""
    return [one for one in sets if not any([place in one for place in draws])]


def count_missed(n, sets, more):
    """How many of the sets are missed, summed over all draws of so many more; the mean is this by all draws."""
    return sum([product([n - len(one)] * more) for one in sets])


def count_draws(n, more):
    """How many draws of so many more there are."""
    return product([n] * more)


def mean_missed(book, draws, more):
    """The mean, over all draws of so many more, of how many sets are missed by these and by the draws."""
    need_book(book)
    need_draws(book, draws)
    need_draws_number(more)
    n, sets = book
    return lowest(count_missed(n, missed_by(sets, draws), more), count_draws(n, more))


def next_draw(n, sets, more):
    """The least place by which, with so many more draws to come, the fewest of the sets are missed in the mean."""
    # All places have the same number of draws to come, so what is counted stands for the mean.
    told = [count_missed(n, missed_by(sets, (place,)), more) for place in range(n)]
    return told.index(min(told))


def draws_by(book, number):
    """So many draws, each the least place by which the mean missed, with the draws to come, is least."""
    need_book(book)
    need_draws_number(number)
    n, sets = book
    draws = []
    for more in reversed(range(number)):
        draws.append(next_draw(n, missed_by(sets, draws), more))
    return tuple(draws)


def enough(book):
    """The least number of draws for which the mean missed of nothing drawn is less than 1."""
    need_book(book)
    n, sets = book
    number = 0
    # No set is empty, so the mean goes to 0.
    while count_missed(n, sets, number) >= count_draws(n, number):
        number += 1
    return number
