"""What is a board, the squares of begun signs, the signs that are told, and rows that break a bound."""

import unittest
from fractions import Fraction

from meanchoice.boards import breaks, is_board, signs_by, squares
from meanchoice.errors import NoBoard, NoNumber, NoSigns
from things import (
    BIG, BOARD, NO_BOARDS, NO_BOUNDS, NO_SIGNS, ODD_THINGS, Draw, Unchanged, at_spot, begun_signs, broken_by,
    columns_of, drawn_boards, great_boards, mean_of_all, pair, row_sums, signs_on, spots, with_spot,
)

NO_ROWS = ()


def squares_by(board, signs):
    return sum(one * one for one in row_sums(board, signs))


def numbers_squared(board):
    return sum(number * number for row in board for number in row)


class IsBoard(Unchanged):
    def check(self, thing, wanted):
        self.assertIs(self.told(is_board, thing), wanted, thing)

    def test_ordinary_ones(self):
        self.check(BOARD, True)
        for board in drawn_boards(91) + great_boards(92):
            self.check(board, True)

    def test_rows(self):
        for row in ((), (1,), (0, -9, 9), (5,) * 10):
            for many in range(9):
                self.check((row,) * many, True)
            for many in (9, 10, 20):
                self.check((row,) * many, False)

    def test_columns(self):
        for many in range(11):
            self.check(((1,) * many,), True)
            self.check(((1,) * many,) * 8, True)
        for many in (11, 12, 30):
            self.check(((1,) * many,), False)
            self.check(((1,) * many,) * 8, False)

    def test_numbers(self):
        for number in range(-9, 10):
            self.check(((number,),), True)
            self.check(((1, 2), (3, number)), True)
        for number in (-10, 10, 11, -99, BIG, -BIG):
            self.check(((number,),), False)
            self.check(((number, 2), (3, 4)), False)
            self.check(((1, 2), (3, number)), False)

    def test_rows_of_unlike_lengths(self):
        for lengths in ((0, 1), (1, 0), (1, 2), (2, 1), (9, 10), (10, 9), (2, 2, 1), (2, 1, 2), (1, 2, 2), (10, 11)):
            self.check(tuple((1,) * length for length in lengths), False)

    def test_odd_things_at_each_spot(self):
        for path in spots(BOARD):
            # Here -1 is a number like others.
            for odd in [odd for odd in ODD_THINGS if odd != -1] + ["ab", "abc", ((),)]:
                if path or odd != ((),):
                    self.check(with_spot(BOARD, path, odd), False)
            here = at_spot(BOARD, path)
            if isinstance(here, tuple):
                self.check(with_spot(BOARD, path, list(here)), False)
                self.check(with_spot(BOARD, path, dict.fromkeys(range(len(here)), 1)), False)
                self.check(with_spot(BOARD, path, len(here)), False)
                for odd in ODD_THINGS + [(), ((),), 1]:
                    self.check(with_spot(BOARD, path, here + (odd,)), False)
            else:
                for odd in ((), (here,), ((),)):
                    self.check(with_spot(BOARD, path, odd), False)

    def test_other_things(self):
        for thing in NO_BOARDS:
            self.check(thing, False)


class Squares(Unchanged):
    def check(self, board, begun, wanted):
        told = self.told(squares, board, begun)
        self.assertIs(type(told), int)
        self.assertEqual(told, wanted)

    def test_a_board(self):
        self.check(BOARD, (), 178)
        self.check(BOARD, (1, 1), 184)
        self.check(BOARD, (1, 1, 1), 26)
        self.check(BOARD, (1, 1, -1), 342)

    def test_no_rows_no_numbers(self):
        self.check(NO_ROWS, (), 0)
        self.check(((),), (), 0)
        self.check(((),) * 8, (), 0)

    def test_against_all_signs(self):
        for board in drawn_boards(93):
            for begun in begun_signs(board):
                ends = [squares_by(board, signs) for signs in signs_on(board, begun)]
                self.assertEqual(sum(ends) % len(ends), 0)
                self.check(board, begun, sum(ends) // len(ends))

    def test_of_nothing_begun(self):
        for board in drawn_boards(94) + great_boards(95):
            self.check(board, (), numbers_squared(board))

    def test_of_all_signs_begun(self):
        draw = Draw(96)
        for board in great_boards(97):
            signs = tuple(1 - 2 * draw.below(2) for column in range(10))
            self.check(board, signs, squares_by(board, signs))

    def test_great_boards_of_all_signs(self):
        board = great_boards(98)[0]
        for begun in ((), (1,), (-1, 1, 1), (1, -1, 1, -1, 1, -1)):
            wanted = mean_of_all(squares_by(board, signs) for signs in signs_on(board, begun))
            with self.within_short():
                self.check(board, begun, wanted[0])
            self.assertEqual(wanted[1], 1)


class SignsBy(Unchanged):
    def check(self, board, wanted):
        told = self.told(signs_by, board)
        self.check_numbers(told)
        self.assertEqual(told, wanted)
        means = [squares(board, told[:many]) for many in range(len(told) + 1)]
        self.assertEqual(means, sorted(means, reverse=True))
        self.assertLessEqual(squares_by(board, told), numbers_squared(board))

    def signs_of_all(self, board):
        """By going through all signs."""
        begun = ()
        for column in range(columns_of(board)):
            plus, minus = [
                Fraction(*mean_of_all(squares_by(board, signs) for signs in signs_on(board, begun + (sign,))))
                for sign in (1, -1)
            ]
            begun += (1 if plus <= minus else -1,)
        return begun

    def test_a_board(self):
        self.check(BOARD, (1, -1, -1))
        self.check(((3, 2), (1, 2)), (1, -1))
        self.check(((3, -2), (1, 1)), (1, 1))

    def test_ties(self):
        # The first sign is always a tie, a column of noughts is, and where unlike rows make up for one another.
        self.check(((5,),), (1,))
        self.check(((-5,),), (1,))
        self.check(((1, 0, 1),), (1, 1, -1))
        self.check(((0, 0, 0),), (1, 1, 1))
        self.check(((1, 1), (1, -1)), (1, 1))
        self.check(((1, 1), (1, -1), (0, 3)), (1, 1))

    def test_no_rows_no_numbers(self):
        self.check(NO_ROWS, ())
        self.check(((),), ())
        self.check(((),) * 8, ())

    def test_against_all_signs(self):
        for board in drawn_boards(99):
            self.check(board, self.signs_of_all(board))

    def test_great_boards(self):
        for board in great_boards(100):
            with self.within_short():
                told = signs_by(board)
            wanted = ()
            for column in range(10):
                wanted += (1 if squares(board, wanted + (1,)) <= squares(board, wanted + (-1,)) else -1,)
            self.assertEqual(told, wanted)
            self.check(board, wanted)
        self.check(((9,) * 10,) * 8, (1, -1) * 5)

    def test_no_row_breaks_what_all_squares_are_below(self):
        for board in drawn_boards(101) + great_boards(102):
            for bound in range(1, 100):
                if numbers_squared(board) < bound * bound:
                    self.assertEqual(broken_by(board, bound, signs_by(board)), 0)
                    self.assertEqual(breaks(board, bound, signs_by(board)), (0, 1))


class Breaks(Unchanged):
    def check(self, board, bound, begun, wanted):
        told = self.told(breaks, board, bound, begun)
        self.check_fraction(told)
        self.assertEqual(told, wanted)
        self.assertLessEqual(Fraction(*told), Fraction(squares(board, begun), bound * bound))

    def test_a_board(self):
        self.check(BOARD, 1, (), (5, 2))
        self.check(BOARD, 5, (), (3, 4))
        self.check(BOARD, 3, (1,), (7, 4))
        self.check(BOARD, 1, (1, 1, 1), (2, 1))
        self.check(BOARD, 2, (1, 1, 1), (1, 1))
        self.check(BOARD, 6, (1, 1, 1), (0, 1))

    def test_at_just_the_rows_sum(self):
        board = ((3, 4), (-5, -2), (1, -1))
        # The sums are 7, -7 and 0.
        self.check(board, 6, (1, 1), (2, 1))
        self.check(board, 7, (1, 1), (2, 1))
        self.check(board, 8, (1, 1), (0, 1))
        self.check(((9,) * 10, (-9,) * 10), 90, (1,) * 10, (2, 1))
        self.check(((9,) * 10, (-9,) * 10), 91, (1,) * 10, (0, 1))
        self.check(((9,) * 10,), 90, (), (1, 512))
        self.check(((9,) * 10,), 91, (), (0, 1))

    def test_bounds_at_the_edges(self):
        for board in drawn_boards(103):
            for begun in begun_signs(board)[:8]:
                ends = signs_on(board, begun)
                self.check(board, 1, begun, mean_of_all(broken_by(board, 1, signs) for signs in ends))
                self.check(board, 99, begun, (0, 1))
        self.check(((0, 0),), 1, (), (0, 1))
        self.check(((1, 0),), 1, (), (1, 1))

    def test_no_rows_no_numbers(self):
        for bound in (1, 50, 99):
            self.check(NO_ROWS, bound, (), (0, 1))
            self.check(((),), bound, (), (0, 1))
            self.check(((),) * 8, bound, (), (0, 1))

    def test_against_all_signs(self):
        for board in drawn_boards(104, 20):
            for begun in begun_signs(board):
                ends = signs_on(board, begun)
                for bound in (1, 2, 5, 9, 10, 18, 27):
                    self.check(board, bound, begun, mean_of_all(broken_by(board, bound, signs) for signs in ends))

    def test_great_boards(self):
        for board in great_boards(105):
            for begun in ((), (1, -1), (-1, 1, 1, -1, 1)):
                ends = signs_on(board, begun)
                for bound in (1, 8, 30):
                    wanted = mean_of_all(broken_by(board, bound, signs) for signs in ends)
                    with self.within_short():
                        self.check(board, bound, begun, wanted)

    def test_great_boards_within_a_short_time(self):
        board = great_boards(106)[0]
        with self.within_short():
            for bound in range(1, 100):
                breaks(board, bound, ())

    def test_the_mean_is_that_of_those_one_sign_longer(self):
        for board in drawn_boards(107, 10):
            for begun in begun_signs(board):
                if len(begun) < columns_of(board):
                    longer = [Fraction(*breaks(board, 4, begun + (sign,))) for sign in (1, -1)]
                    self.check(board, 4, begun, pair(sum(longer) / 2))

    def test_each_is_a_new_one(self):
        self.assertIsNot(breaks(NO_ROWS, 1, ()), breaks(NO_ROWS, 1, ()))


class OrderOfRefusals(Unchanged):
    def test_no_board_goes_ahead_of_all(self):
        for thing in NO_BOARDS:
            self.refused(NoBoard, signs_by, thing)
            for begun in [(), (1, 1), None, [1], (0,)]:
                self.refused(NoBoard, squares, thing, begun)
                for bound in (1, 0, None):
                    self.refused(NoBoard, breaks, thing, bound, begun)

    def test_then_no_number(self):
        for bound in NO_BOUNDS:
            for begun in [(), (1, -1, 1)] + NO_SIGNS:
                self.refused(NoNumber, breaks, BOARD, bound, begun)
            self.refused(NoNumber, breaks, NO_ROWS, bound, ())

    def test_then_no_signs(self):
        for begun in NO_SIGNS:
            self.refused(NoSigns, squares, BOARD, begun)
            self.refused(NoSigns, breaks, BOARD, 1, begun)
            self.refused(NoSigns, breaks, BOARD, 99, begun)
        for board in (NO_ROWS, ((),), ((),) * 8):
            for begun in [(1,), (-1,), [], None]:
                self.refused(NoSigns, squares, board, begun)
                self.refused(NoSigns, breaks, board, 5, begun)

    def test_odd_things_at_each_column(self):
        for column in range(3):
            for odd in [odd for odd in ODD_THINGS if odd != -1] + [0, 2, -2, (), (1,)]:
                signs = tuple(odd if at == column else 1 for at in range(3))
                for begun in (signs, signs[:column + 1]):
                    self.refused(NoSigns, squares, BOARD, begun)
                    self.refused(NoSigns, breaks, BOARD, 5, begun)


if __name__ == "__main__":
    unittest.main()
