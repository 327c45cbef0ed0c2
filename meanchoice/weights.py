"""Weights that stand for bounds: means of powers of two of a board's rows' sums, and signs by which they never rise."""

from meanchoice.boards import how_many_columns, need_begun_signs, need_board, need_bound, signed_sum
from meanchoice.fractions import is_less, lowest, plus, product, times


def two_to(number):
    """2 to the power of the number, which is not below 0."""
    return product([2] * number)


def both_powers(number):
    """2 to the power of the number and 2 to the power of its opposite, summed: a fraction."""
    power = two_to(abs(number))
    return lowest(power * power + 1, power)


def row_weight(row, begun):
    """The mean, over all signs that begin so, of both powers of the row's sum."""
    total = both_powers(signed_sum(row, begun))
    # Columns are apart from one another, and by both signs of one each power is multiplied alike in the mean.
    for number in row[len(begun):]:
        total = times(total, times(both_powers(number), (1, 2)))
    return total


def mean_weight(board, begun):
    """The mean, over all signs that begin so, of both powers of all rows' sums, summed."""
    total = lowest(0, 1)
    for row in board:
        total = plus(total, row_weight(row, begun))
    return total


def weight_of(board, begun):
    """The weight of the begun signs: a fraction."""
    need_board(board)
    need_begun_signs(board, begun)
    return mean_weight(board, begun)


def signs_by_weight(board):
    """Signs by which the weight never rises: 1 each time where its weight is no greater than that of -1."""
    need_board(board)
    signs = ()
    while len(signs) < how_many_columns(board):
        is_greater = is_less(mean_weight(board, signs + (-1,)), mean_weight(board, signs + (1,)))
        signs = signs + (-1 if is_greater else 1,)
    return signs


def is_above(bound, weight):
    """Whether 2 to the power of the bound is more than the weight."""
    return is_less(weight, (two_to(bound), 1))


def is_safe(board, bound):
    """Whether the bound is safe: the signs told by weights let no row break it."""
    need_board(board)
    need_bound(bound)
    return is_above(bound, mean_weight(board, ()))


def least_safe(board):
    """The least safe bound."""
    need_board(board)
    weight = mean_weight(board, ())
    bound = 1
    while not is_above(bound, weight):
        bound += 1
    return bound
