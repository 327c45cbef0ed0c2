"""The weight of begun signs against all signs, the signs told by it, safe bounds and the least one."""

import unittest
from fractions import Fraction

from meanchoice.boards import breaks, signs_by
from meanchoice.errors import NoBoard, NoNumber, NoSigns
from meanchoice.weights import is_safe, least_safe, signs_by_weight, weight_of
from things import (
    BOARD, NO_BOARDS, NO_BOUNDS, NO_SIGNS, ODD_THINGS, Unchanged, begun_signs, broken_by, columns_of, drawn_boards,
    great_boards, pair, row_sums, signs_on,
)

NO_ROWS = ()


def powers(number):
    return Fraction(2) ** number + Fraction(2) ** -number


def weight_by(board, signs):
    """The weight of signs for all columns, by the rows' sums."""
    return sum((powers(one) for one in row_sums(board, signs)), Fraction(0))


def weight_by_all(board, begun):
    """By going through all signs."""
    ends = signs_on(board, begun)
    return sum((weight_by(board, signs) for signs in ends), Fraction(0)) / len(ends)


def signs_of_all(board):
    """The signs told, by going through all signs at each step."""
    begun = ()
    for column in range(columns_of(board)):
        begun += (1 if weight_by_all(board, begun + (1,)) <= weight_by_all(board, begun + (-1,)) else -1,)
    return begun


def great_weight(board):
    """The weight of nothing begun, by how often each row's sum comes."""
    total = Fraction(0)
    for row in board:
        counts = {0: 1}
        for number in row:
            longer = {}
            for one, count in counts.items():
                for end in (one + number, one - number):
                    longer[end] = longer.get(end, 0) + count
            counts = longer
        total += sum(count * powers(one) for one, count in counts.items()) / 2 ** len(row)
    return total


class WeightOf(Unchanged):
    def check(self, board, begun, wanted):
        told = self.told(weight_of, board, begun)
        self.check_fraction(told)
        self.assertEqual(told, wanted)

    def test_small_ones(self):
        self.check(((1,),), (), (5, 2))
        self.check(((1,),), (1,), (5, 2))
        self.check(((1,),), (-1,), (5, 2))
        self.check(((2,), (-3,)), (), (99, 8))
        self.check(((1, 1),), (), (25, 8))
        self.check(((1, 1),), (1, 1), (17, 4))
        self.check(((1, 1),), (1, -1), (2, 1))
        self.check(((0, 0),), (), (2, 1))

    def test_a_board(self):
        # The rows' sums are -1, 5, 0 by all signs 1.
        self.check(BOARD, (1, 1, 1), pair(Fraction(5, 2) + 32 + Fraction(1, 32) + 2))
        self.check(BOARD, (), pair(weight_by_all(BOARD, ())))

    def test_no_rows_no_numbers(self):
        self.check(NO_ROWS, (), (0, 1))
        for many in range(1, 9):
            self.check(((),) * many, (), (2 * many, 1))
            self.check(((0,) * 10,) * many, (1, -1), (2 * many, 1))

    def test_against_all_signs(self):
        for board in drawn_boards(301):
            for begun in begun_signs(board):
                self.check(board, begun, pair(weight_by_all(board, begun)))

    def test_the_mean_is_that_of_those_one_sign_longer(self):
        for board in drawn_boards(302, 10) + great_boards(303):
            for begun in [()] + begun_signs(tuple(row[:4] for row in board)):
                if len(begun) < columns_of(board):
                    longer = [Fraction(*weight_of(board, begun + (sign,))) for sign in (1, -1)]
                    self.check(board, begun, pair(sum(longer) / 2))

    def test_eight_rows_and_ten_columns(self):
        for board in great_boards(304):
            with self.within_short():
                told = [weight_of(board, ()), weight_of(board, (1, -1, 1)), weight_of(board, (-1,) * 10)]
            self.assertEqual(told[0], pair(great_weight(board)))
            self.assertEqual(told[1], pair(weight_by_all(board, (1, -1, 1))))
            self.assertEqual(told[2], pair(weight_by(board, (-1,) * 10)))

    def test_the_greatest_sums(self):
        for sign in (1, -1):
            board = ((9 * sign,) * 10,) * 8
            self.check(board, (1,) * 10, pair(8 * (2 ** 90 + Fraction(1, 2 ** 90))))
            self.check(board, (1, -1) * 5, (16, 1))

    def test_each_is_a_new_one(self):
        self.assertIsNot(weight_of(NO_ROWS, ()), weight_of(NO_ROWS, ()))


class SignsByWeight(Unchanged):
    def check(self, board, wanted):
        told = self.told(signs_by_weight, board)
        self.check_numbers(told)
        self.assertEqual(told, wanted)
        weights = [Fraction(*weight_of(board, told[:many])) for many in range(len(told) + 1)]
        self.assertEqual(weights, sorted(weights, reverse=True))

    def test_ties(self):
        # The first sign is always a tie, a column of noughts is, and where unlike rows make up for one another.
        self.check(((5,),), (1,))
        self.check(((-5,),), (1,))
        self.check(((1, 0, 1),), (1, 1, -1))
        self.check(((0, 0, 0),), (1, 1, 1))
        self.check(((1, 1), (1, -1)), (1, 1))
        self.check(((1, 1), (1, -1), (0, 3)), (1, 1))

    def test_others(self):
        self.check(((3, 2), (1, 2)), (1, -1))
        self.check(((3, -2), (1, 1)), (1, 1))
        self.check(((9,) * 10,) * 8, (1, -1) * 5)
        self.check(((1, 1, 1, 1),), (1, -1, 1, -1))
        self.check(BOARD, signs_of_all(BOARD))

    def test_not_always_as_by_squares(self):
        # By squares the last three rows outweigh the first one, by weights it outweighs them.
        board = ((9, 9), (6, -7), (6, -7), (6, -7))
        self.assertEqual(signs_by(board), (1, 1))
        self.check(board, (1, -1))

    def test_no_rows_no_numbers(self):
        self.check(NO_ROWS, ())
        self.check(((),), ())
        self.check(((),) * 8, ())

    def test_against_all_signs(self):
        for board in drawn_boards(305):
            self.check(board, signs_of_all(board))

    def test_great_boards(self):
        for board in great_boards(306):
            with self.within_short():
                told = signs_by_weight(board)
            wanted = ()
            for column in range(10):
                plus, minus = [Fraction(*weight_of(board, wanted + (sign,))) for sign in (1, -1)]
                wanted += (1 if plus <= minus else -1,)
            self.assertEqual(told, wanted)
            self.check(board, wanted)

    def test_safe_bounds_are_not_broken(self):
        for board in drawn_boards(307) + great_boards(308):
            signs = signs_by_weight(board)
            for bound in range(1, 100):
                if is_safe(board, bound):
                    self.assertEqual(broken_by(board, bound, signs), 0)
                    self.assertEqual(breaks(board, bound, signs), (0, 1))


class Safe(Unchanged):
    def check(self, board, least):
        """That from this bound on they are safe, and below it none is."""
        told = self.told(least_safe, board)
        self.assertIs(type(told), int)
        self.assertEqual(told, least)
        for bound in {1, 2, least - 1, least, least + 1, 50, 98, 99}:
            if 1 <= bound:
                self.assertIs(self.told(is_safe, board, bound), bound >= least, (board, bound))

    def least_of(self, board):
        """By the weight and powers of two."""
        return min(bound for bound in range(1, 100) if great_weight(board) < 2 ** bound)

    def test_no_rows_no_numbers(self):
        self.check(NO_ROWS, 1)
        # The weight is just a power of two, which is not less than itself.
        self.check(((),), 2)
        self.check(((),) * 2, 3)
        self.check(((),) * 3, 3)
        self.check(((),) * 4, 4)
        self.check(((),) * 7, 4)
        self.check(((),) * 8, 5)
        self.check(((0, 0, 0),), 2)

    def test_small_ones(self):
        self.check(((1,),), 2)
        self.check(((2,),), 3)
        self.check(((9,),), 10)
        self.check(((-9,),), 10)
        self.check(((1, 1),), 2)

    def test_the_greatest_one(self):
        for sign in (1, -1):
            self.check(((9 * sign,) * 10,) * 8, 85)
            self.check(((9 * sign,) * 10,), 82)

    def test_drawn_ones(self):
        seen = set()
        for board in drawn_boards(309) + great_boards(310):
            least = self.least_of(board)
            self.assertLessEqual(least, 85)
            seen.add(least)
            self.check(board, least)
        self.assertGreater(len(seen), 8)

    def test_all_bounds(self):
        for board in drawn_boards(311, 5) + great_boards(312)[:1]:
            told = [is_safe(board, bound) for bound in range(1, 100)]
            self.assertEqual(told, [great_weight(board) < 2 ** bound for bound in range(1, 100)])
            self.assertEqual(told, sorted(told))

    def test_great_boards_within_a_short_time(self):
        for board in great_boards(313):
            with self.within_short():
                least = least_safe(board)
                self.assertIs(is_safe(board, least), True)


class OrderOfRefusals(Unchanged):
    def test_no_board_goes_ahead_of_all(self):
        for thing in NO_BOARDS:
            self.refused(NoBoard, signs_by_weight, thing)
            self.refused(NoBoard, least_safe, thing)
            for begun in [(), (1, 1), None, [1], (0,)]:
                self.refused(NoBoard, weight_of, thing, begun)
            for bound in (1, 0, 100, None, True):
                self.refused(NoBoard, is_safe, thing, bound)

    def test_then_no_number(self):
        for bound in NO_BOUNDS:
            for board in (BOARD, NO_ROWS, ((),), ((9,) * 10,) * 8):
                self.refused(NoNumber, is_safe, board, bound)

    def test_then_no_signs(self):
        for begun in NO_SIGNS:
            self.refused(NoSigns, weight_of, BOARD, begun)
        for board in (NO_ROWS, ((),), ((),) * 8):
            for begun in [(1,), (-1,), [], None]:
                self.refused(NoSigns, weight_of, board, begun)

    def test_odd_things_at_each_column(self):
        for column in range(3):
            for odd in [odd for odd in ODD_THINGS if odd != -1] + [0, 2, -2, (), (1,)]:
                signs = tuple(odd if at == column else 1 for at in range(3))
                for begun in (signs, signs[:column + 1]):
                    self.refused(NoSigns, weight_of, BOARD, begun)


if __name__ == "__main__":
    unittest.main()
