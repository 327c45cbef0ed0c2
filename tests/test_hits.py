"""What is a book, the mean missed against all draws, the draws that are told, and how many are enough."""

import itertools
import unittest
from fractions import Fraction

from meanchoice.errors import NoBook, NoDraws, NoNumber
from meanchoice.hits import draws_by, enough, is_book, mean_missed
from things import (
    BIG, NO_BOOKS, ODD_THINGS, OTHER_THINGS, Draw, Unchanged, at_spot, drawn_book, great_books, is_missed, pair, spots,
    with_spot,
)

# Noughts and ones stand at many spots, so truths would pass there for numbers.
BOOK = (3, ((0, 1), (1,), (0, 1, 2), (2,), (1,)))

NO_SETS = (3, ())

NO_NUMBERS = ODD_THINGS + [100, 101, -2, "2", (), (2,), [2], {2: 2}]

# None of these is draws of BOOK.
NO_DRAWS = OTHER_THINGS + [
    (3,), (-1,), (0, 3), (0, 1, 2, -1), (0,) * 100, (2,) * 150, [0], [0, 1, 2], (0, True), (False,), (1, None),
    (1, "1"), (1, [1]), (1, (1,)), (1, {}), (BIG, 1), (1, -BIG), "012", {0: 1}, ((0, 1, 2),),
]


def missed(book, draws):
    return len([one for one in book[1] if is_missed(one, draws)])


def mean_by_all(book, draws, more):
    """By going through all draws of so many more."""
    counts = [missed(book, draws + rest) for rest in itertools.product(range(book[0]), repeat=more)]
    return Fraction(sum(counts), len(counts))


def mean_by_sets(book, draws, more):
    """Set by set."""
    n, sets = book
    return sum((Fraction(n - len(one), n) ** more for one in sets if is_missed(one, draws)), Fraction(0))


def draws_of_all(book, number):
    """The draws told, by the means set by set at each step."""
    draws = ()
    for more in range(number - 1, -1, -1):
        means = [mean_by_sets(book, draws + (place,), more) for place in range(book[0])]
        draws += (means.index(min(means)),)
    return draws


def books(seed, many=25, most_places=4):
    draw = Draw(seed)
    drawn = [drawn_book(draw, most_places) for turn in range(many)]
    return drawn + [BOOK, NO_SETS, (1, ()), (1, ((0,),)), (1, ((0,),) * 16), (10, ()), (2, ((0, 1),) * 3)]


class IsBook(Unchanged):
    def check(self, thing, wanted):
        self.assertIs(self.told(is_book, thing), wanted, thing)

    def test_ordinary_ones(self):
        for book in books(341) + great_books(342):
            self.check(book, True)

    def test_places(self):
        for n in range(1, 11):
            self.check((n, ()), True)
            self.check((n, (tuple(range(n)),)), True)
            self.check((n, ((n - 1,),)), True)
            self.check((n, ((n,),)), False)
            self.check((n, (tuple(range(n + 1)),)), False)
            self.check((n, ((-1,),)), False)
        for n in (0, 11, 12, -1, -10, BIG, -BIG):
            self.check((n, ()), False)
            self.check((n, ((0,),)), False)

    def test_sets(self):
        for one in ((0,), (0, 1, 2), (1, 2)):
            for many in range(17):
                self.check((3, (one,) * many), True)
            for many in (17, 18, 40):
                self.check((3, (one,) * many), False)

    def test_no_set_is_empty(self):
        self.check((3, ((),)), False)
        self.check((3, ((0, 1), ())), False)
        self.check((3, ((), (0, 1))), False)

    def test_places_that_do_not_rise(self):
        for one in itertools.product(range(-1, 5), repeat=2):
            self.check((4, (one,)), 0 <= one[0] < one[1] < 4)
            self.check((4, ((0, 1, 2), one)), 0 <= one[0] < one[1] < 4)
        for order in itertools.permutations((0, 1, 3)):
            self.check((4, (order,)), order == (0, 1, 3))
        self.check((4, ((0, 1, 1),)), False)

    def test_sets_need_not_rise(self):
        self.check((3, ((2,), (1,), (0,), (1, 2), (0, 1), (0, 1))), True)

    def test_odd_things_at_each_spot(self):
        for path in spots(BOOK):
            for odd in ODD_THINGS + ["ab", "abc", ((),)]:
                self.check(with_spot(BOOK, path, odd), False)
            here = at_spot(BOOK, path)
            if isinstance(here, tuple):
                self.check(with_spot(BOOK, path, list(here)), False)
                self.check(with_spot(BOOK, path, dict.fromkeys(range(len(here)), 1)), False)
                self.check(with_spot(BOOK, path, len(here)), False)
                for odd in ODD_THINGS + [(), ((),)]:
                    self.check(with_spot(BOOK, path, here + (odd,)), False)
            else:
                for odd in ((), (here,), ((),)):
                    self.check(with_spot(BOOK, path, odd), False)

    def test_other_things(self):
        for thing in NO_BOOKS:
            self.check(thing, False)
        for thing in OTHER_THINGS:
            self.check((thing, thing), False)


class MeanMissed(Unchanged):
    def check(self, book, draws, more, wanted):
        told = self.told(mean_missed, book, draws, more)
        self.check_fraction(told)
        self.assertEqual(told, wanted)

    def test_a_book(self):
        self.check(BOOK, (), 0, (5, 1))
        self.check(BOOK, (), 1, (7, 3))
        self.check(BOOK, (), 2, (13, 9))
        self.check(BOOK, (0,), 0, (3, 1))
        self.check(BOOK, (0,), 1, (2, 1))
        self.check(BOOK, (1,), 2, (4, 9))
        self.check(BOOK, (1, 2), 0, (0, 1))
        self.check(BOOK, (1, 2), 99, (0, 1))

    def test_against_all_draws(self):
        for book in books(343):
            for many in range(3):
                for draws in itertools.product(range(book[0]), repeat=many):
                    for more in range(4 if book[0] < 5 else 3):
                        self.check(book, draws, more, pair(mean_by_all(book, draws, more)))

    def test_draws_twice_and_in_any_order(self):
        self.check(BOOK, (0, 0, 0), 1, (2, 1))
        self.check(BOOK, (2, 0), 1, mean_missed(BOOK, (0, 2), 1))
        self.check(BOOK, (1,) * 99, 1, (2, 3))

    def test_of_nothing_more_it_is_what_is_missed(self):
        draw = Draw(344)
        for book in books(345) + great_books(346):
            for many in (0, 1, 3, 99):
                draws = tuple(draw.below(book[0]) for one in range(many))
                self.check(book, draws, 0, (missed(book, draws), 1))

    def test_it_is_the_mean_of_those_one_draw_longer(self):
        for book in books(347) + great_books(348):
            for more in (1, 2, 7, 99):
                longer = [Fraction(*mean_missed(book, (0, place), more - 1)) for place in range(book[0])]
                self.check(book, (0,), more, pair(sum(longer) / book[0]))

    def test_ninety_nine_more(self):
        for book in great_books(349):
            with self.within_short():
                for draws in ((), (3,), (0, 5, 9)):
                    self.check(book, draws, 99, pair(mean_by_sets(book, draws, 99)))
        self.check((10, ((0,),)), (), 99, (9 ** 99, 10 ** 99))
        self.check((10, ((0,),)), (1,) * 99, 99, (9 ** 99, 10 ** 99))

    def test_no_sets_and_sets_of_all_places(self):
        for more in (0, 1, 50, 99):
            self.check(NO_SETS, (), more, (0, 1))
            self.check(NO_SETS, (0, 1), more, (0, 1))
            self.check((10, (tuple(range(10)),) * 16), (), more, (0 if more else 16, 1))
            self.check((1, ((0,),)), (), more, (0 if more else 1, 1))

    def test_each_is_a_new_one(self):
        self.assertIsNot(mean_missed(NO_SETS, (), 0), mean_missed(NO_SETS, (), 0))


class DrawsBy(Unchanged):
    def check(self, book, number, wanted):
        told = self.told(draws_by, book, number)
        self.check_numbers(told)
        self.assertEqual(len(told), number)
        self.assertEqual(told, wanted)
        means = [Fraction(*mean_missed(book, told[:many], number - many)) for many in range(number + 1)]
        self.assertEqual(means, sorted(means, reverse=True))
        self.assertLessEqual(missed(book, told), means[0])

    def test_a_book(self):
        self.check(BOOK, 0, ())
        self.check(BOOK, 1, (1,))
        self.check(BOOK, 2, (1, 2))
        self.check(BOOK, 4, (1, 2, 0, 0))

    def test_ties(self):
        self.check((3, ((1,), (2,))), 1, (1,))
        self.check((3, ((1, 2),)), 1, (1,))
        self.check((4, ((3,), (2,), (1,))), 3, (1, 2, 3))
        self.check((4, ((2, 3), (1, 3), (1, 2))), 2, (1, 2))
        self.check(NO_SETS, 3, (0, 0, 0))

    def test_the_draws_to_come_count(self):
        # Place 0 hits two sets, place 1 the one of a single place: with more draws to come that one goes first.
        book = (4, ((1,), (0, 2, 3), (0, 2, 3)))
        self.check(book, 1, (0,))
        self.check(book, 2, (1, 0))
        self.check(book, 3, (1, 0, 0))

    def test_draws_against_all_ways_to_go_on(self):
        for book in books(350, 15, 3):
            for number in range(4):
                draws = ()
                for more in reversed(range(number)):
                    means = [mean_by_all(book, draws + (place,), more) for place in range(book[0])]
                    draws += (means.index(min(means)),)
                self.check(book, number, draws)

    def test_drawn_books(self):
        for book in books(351) + great_books(352):
            for number in (0, 1, 2, 5, 12):
                self.check(book, number, draws_of_all(book, number))

    def test_ninety_nine(self):
        for book in [BOOK, NO_SETS, (1, ((0,),))] + great_books(353):
            with self.within_short():
                told = draws_by(book, 99)
            self.check(book, 99, draws_of_all(book, 99))
            self.assertEqual(missed(book, told), 0)


class Enough(Unchanged):
    def check(self, book, wanted):
        told = self.told(enough, book)
        self.assertIs(type(told), int)
        self.assertEqual(told, wanted)
        self.assertLess(Fraction(*mean_missed(book, (), told)), 1)
        for fewer in range(told):
            self.assertGreaterEqual(Fraction(*mean_missed(book, (), fewer)), 1)
        self.assertEqual(missed(book, draws_by(book, told)), 0)

    def test_small_ones(self):
        self.check(BOOK, 3)
        self.check((1, ((0,),)), 1)
        self.check((1, ((0,),) * 16), 1)
        self.check((2, ((0,), (1,))), 2)
        # By one draw the mean is just 1, which is not less.
        self.check((4, ((0, 1), (2, 3))), 2)
        self.check((4, ((0, 1, 2), (1, 2, 3))), 1)

    def test_no_sets(self):
        for n in range(1, 11):
            self.check((n, ()), 0)

    def test_great_ones(self):
        ones = (10, tuple((one % 10,) for one in range(16)))
        self.check(ones, 27)
        self.check((10, ((7,),) * 16), 27)
        self.check((10, (tuple(range(10)),) * 16), 1)
        for book in great_books(354):
            with self.within_short():
                told = enough(book)
            self.check(book, told)

    def test_drawn_ones(self):
        seen = set()
        for book in books(355, 60, 10):
            wanted = next(number for number in range(100) if mean_by_sets(book, (), number) < 1)
            seen.add(wanted)
            self.check(book, wanted)
        self.assertGreater(len(seen), 4)


class OrderOfRefusals(Unchanged):
    def test_no_book_goes_ahead_of_all(self):
        for thing in NO_BOOKS:
            self.refused(NoBook, enough, thing)
            for number in (0, 100, None, True):
                self.refused(NoBook, draws_by, thing, number)
                for draws in [(), (0,), None, [0], (11,)]:
                    self.refused(NoBook, mean_missed, thing, draws, number)

    def test_then_no_draws(self):
        for draws in NO_DRAWS:
            for more in [0, 99] + NO_NUMBERS:
                self.refused(NoDraws, mean_missed, BOOK, draws, more)
        self.assertEqual(mean_missed(BOOK, (0,) * 99, 0), (3, 1))

    def test_odd_things_among_draws(self):
        for at in range(3):
            for odd in ODD_THINGS + [3, 4, -2, (), (1,)]:
                draws = tuple(odd if here == at else 1 for here in range(3))
                self.refused(NoDraws, mean_missed, BOOK, draws, 0)
        for n in range(1, 11):
            self.assertEqual(mean_missed((n, ()), (n - 1,), 0), (0, 1))
            self.refused(NoDraws, mean_missed, (n, ()), (n,), 0)

    def test_then_no_number(self):
        for number in NO_NUMBERS:
            for book in (BOOK, NO_SETS):
                self.refused(NoNumber, draws_by, book, number)
                for draws in [(), (0, 1), (0,) * 99]:
                    self.refused(NoNumber, mean_missed, book, draws, number)


if __name__ == "__main__":
    unittest.main()
