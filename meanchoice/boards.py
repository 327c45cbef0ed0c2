"""Boards: rows of numbers whose sums, by signs of the columns, shall stay small."""

from meanchoice.errors import NoBoard, NoNumber, NoSigns
from meanchoice.fractions import lowest, plus
from meanchoice.kinds import is_whole, is_within

MOST_ROWS = 8
MOST_COLUMNS = 10
MOST_NUMBER = 9
MOST_BOUND = 99


def is_row(thing):
    """Whether the thing, anything, is a row of a board."""
    if not isinstance(thing, tuple) or len(thing) > MOST_COLUMNS:
        return False
    return all([is_within(number, -MOST_NUMBER, MOST_NUMBER) for number in thing])


def is_board(thing):
    """Whether the thing, anything, is a board: rows of as many numbers."""
    if not isinstance(thing, tuple) or len(thing) > MOST_ROWS:
        return False
    return all([is_row(row) for row in thing]) and all([len(row) == len(thing[0]) for row in thing])


def how_many_columns(board):
    """How many columns the board has; none without rows."""
    return len(board[0]) if board else 0


def are_begun_signs(board, thing):
    """Whether the thing, anything, is signs for the first columns of the board."""
    if not isinstance(thing, tuple) or len(thing) > how_many_columns(board):
        return False
    return all([is_whole(sign) and abs(sign) == 1 for sign in thing])


def need_board(thing):
    """Refuse what is no board."""
    if not is_board(thing):
        raise NoBoard("this is no board")


def need_bound(thing):
    """Refuse what is no bound."""
    if not is_within(thing, 1, MOST_BOUND):
        raise NoNumber("this is no bound")


def need_begun_signs(board, thing):
    """Refuse what is no begun signs for the board."""
    if not are_begun_signs(board, thing):
        raise NoSigns("these are no begun signs for the board")


def signed_sum(row, signs):
    """The sum of the row's first numbers, each times its sign."""
    return sum([number * sign for number, sign in zip(row, signs)])


def mean_square(row, begun):
    """The mean of the square of the row's sum, over all signs that begin so."""
    # By the signs to come, products of two columns are as often above nought as below; only squares stay.
    return signed_sum(row, begun) ** 2 + sum([number ** 2 for number in row[len(begun):]])


def mean_squares(board, begun):
    """The mean of the sum of the squares of all rows' sums, over all signs that begin so."""
    return sum([mean_square(row, begun) for row in board])


def squares(board, begun):
    """The mean of the sum of the squares of all rows' sums, over all signs that begin so: a whole number."""
    need_board(board)
    need_begun_signs(board, begun)
    return mean_squares(board, begun)


def signs_by(board):
    """Signs by which the squares never rise: 1 each time where its squares are no greater than those of -1."""
    need_board(board)
    signs = ()
    while len(signs) < how_many_columns(board):
        sign = 1 if mean_squares(board, signs + (1,)) <= mean_squares(board, signs + (-1,)) else -1
        signs = signs + (sign,)
    return signs


def sum_counts(row, begun):
    """How often each sum of the row comes, over all signs that begin so: a dict."""
    counts = {signed_sum(row, begun): 1}
    for number in row[len(begun):]:
        longer = {}
        for total, count in counts.items():
            for one in (total + number, total - number):
                longer[one] = longer.get(one, 0) + count
        counts = longer
    return counts


def break_chance(row, bound, begun):
    """How often, in the mean of all signs that begin so, the row breaks the bound: a fraction."""
    counts = sum_counts(row, begun)
    broken = sum([count for total, count in counts.items() if abs(total) >= bound])
    return lowest(broken, sum(counts.values()))


def breaks(board, bound, begun):
    """The mean number of rows that break the bound, over all signs that begin so: a fraction."""
    need_board(board)
    need_bound(bound)
    need_begun_signs(board, begun)
    total = lowest(0, 1)
    for row in board:
        total = plus(total, break_chance(row, bound, begun))
    return total
