"""What is a web, and the sheet of a web by k."""

import itertools
import unittest

from meanchoice.errors import NoNumber, NoWeb, TooMany
from meanchoice.sheets import is_sheet, worth
from meanchoice.webs import is_web, sheet_of
from things import (
    BIG, NO_WEBS, ODD_THINGS, OTHER_THINGS, Draw, Unchanged, all_choosings, at_spot, drawn_web, full_web, spots,
    with_spot,
)

# Noughts and ones stand at many spots, so truths would pass there for numbers.
WEB = (4, ((0, 1, 1), (0, 3, 7), (1, 2, 1), (2, 3, 99)))

NO_NUMBERS = ODD_THINGS + [0, 1, 5, 6, -2, "2", "3", (), (2,), [2], {2: 2}]


class IsWeb(Unchanged):
    def check(self, thing, wanted):
        self.assertIs(self.told(is_web, thing), wanted, thing)

    def check_ties(self, ties, wanted):
        """By a web of four places."""
        self.check((4, ties), wanted)

    def test_ordinary_ones(self):
        self.check(WEB, True)
        draw = Draw(41)
        for turn in range(50):
            self.check(drawn_web(draw, 10), True)

    def test_places(self):
        for n in range(11):
            self.check((n, ()), True)
        for n in (11, 12, -1, -10, BIG, -BIG):
            self.check((n, ()), False)

    def test_all_ties(self):
        for n in range(11):
            for weight in (1, 99):
                self.check(full_web(n, weight), True)
        self.check(full_web(11), False)

    def test_weights(self):
        for weight in (1, 2, 50, 98, 99):
            self.check_ties(((0, 1, weight),), True)
            self.check_ties(((0, 1, 5), (2, 3, weight)), True)
        for weight in (0, 100, 101, -1, -99, BIG, -BIG):
            self.check_ties(((0, 1, weight),), False)
            self.check_ties(((0, 1, 5), (2, 3, weight)), False)

    def test_ends(self):
        for i, j in itertools.product(range(-2, 6), repeat=2):
            self.check_ties(((i, j, 5),), 0 <= i < j < 4)

    def test_places_that_there_are_not(self):
        self.check((0, ((0, 1, 5),)), False)
        self.check((1, ((0, 1, 5),)), False)
        self.check((2, ((0, 1, 5),)), True)
        self.check((9, ((8, 9, 5),)), False)
        self.check((10, ((8, 9, 5),)), True)
        self.check((10, ((9, 10, 5),)), False)
        for place in (BIG, -BIG):
            self.check_ties(((0, place, 5),), False)
            self.check_ties(((place, 3, 5),), False)

    def test_one_pair_twice(self):
        self.check_ties(((0, 1, 5), (0, 1, 5)), False)
        self.check_ties(((0, 1, 5), (0, 1, 6)), False)
        self.check_ties(((0, 1, 6), (0, 1, 5)), False)
        self.check_ties(((0, 1, 5), (0, 2, 5), (0, 2, 6), (2, 3, 5)), False)

    def test_ties_that_do_not_rise(self):
        self.check_ties(((0, 2, 5), (0, 1, 6)), False)
        self.check_ties(((0, 2, 5), (0, 1, 5)), False)
        self.check_ties(((1, 2, 5), (0, 3, 5)), False)
        self.check_ties(((0, 1, 5), (2, 3, 5), (1, 2, 5)), False)
        # Weights need not rise, nor the greater ends.
        self.check_ties(((0, 1, 9), (0, 2, 5)), True)
        self.check_ties(((0, 3, 9), (1, 2, 5)), True)

    def test_ties_in_each_order(self):
        ties = WEB[1]
        for order in itertools.permutations(ties):
            self.check_ties(order, order == ties)

    def test_odd_things_at_each_spot(self):
        for path in spots(WEB):
            for odd in ODD_THINGS + ["ab", "abc", ((),)]:
                self.check(with_spot(WEB, path, odd), False)
            here = at_spot(WEB, path)
            if isinstance(here, tuple):
                self.check(with_spot(WEB, path, list(here)), False)
                self.check(with_spot(WEB, path, dict.fromkeys(range(len(here)), 1)), False)
                self.check(with_spot(WEB, path, len(here)), False)
                for odd in ODD_THINGS + [(), 1, ((),)]:
                    self.check(with_spot(WEB, path, here + (odd,)), False)
            else:
                for odd in ((), (here,), ((),)):
                    self.check(with_spot(WEB, path, odd), False)

    def test_truths_that_would_pass_for_numbers(self):
        self.check((True, ()), False)
        self.check((False, ()), False)
        self.check((2, ((False, 1, 5),)), False)
        self.check((2, ((0, True, 5),)), False)
        self.check((2, ((0, 1, True),)), False)

    def test_a_thing_more_or_fewer(self):
        self.check((), False)
        self.check((4,), False)
        self.check(((),), False)
        self.check(((), 4), False)
        self.check((4, (), ()), False)
        for tie in ((), (0,), (0, 1), (0, 1, 5, 5), ((0, 1), 5), (0, (1, 5))):
            self.check_ties((tie,), False)
            self.check_ties(((0, 1, 5), tie), False)
        self.check_ties((0, 1, 5), False)

    def test_other_things(self):
        for thing in NO_WEBS:
            self.check(thing, False)
        for thing in OTHER_THINGS:
            self.check((thing, thing), False)


class SheetOf(Unchanged):
    def check(self, web, k):
        n, ties = web
        told = self.told(sheet_of, web, k)
        self.assertIs(is_sheet(told), True)
        self.assertEqual(told[0], (k,) * n)
        wanted = []
        for i, j, weight in ties:
            for side in range(k):
                others = tuple(sorted(set(range(k)) - {side}))
                wanted.append(("some", weight, ((i, others), (j, others))))
        self.assertEqual(told[1], tuple(wanted))
        weights = sum(weight for i, j, weight in ties)
        for sides in all_choosings(told)[:1500]:
            parts = sum(weight for i, j, weight in ties if sides[i] != sides[j])
            self.assertEqual(worth(told, sides), parts + (k - 1) * weights)

    def test_by_two(self):
        wanted = ((2, 2), (("some", 5, ((0, (1,)), (1, (1,)))), ("some", 5, ((0, (0,)), (1, (0,))))))
        self.assertEqual(sheet_of((2, ((0, 1, 5),)), 2), wanted)

    def test_by_three(self):
        web = (3, ((0, 2, 5), (1, 2, 9)))
        wishes = (
            ("some", 5, ((0, (1, 2)), (2, (1, 2)))), ("some", 5, ((0, (0, 2)), (2, (0, 2)))),
            ("some", 5, ((0, (0, 1)), (2, (0, 1)))), ("some", 9, ((1, (1, 2)), (2, (1, 2)))),
            ("some", 9, ((1, (0, 2)), (2, (0, 2)))), ("some", 9, ((1, (0, 1)), (2, (0, 1)))),
        )
        self.assertEqual(sheet_of(web, 3), ((3, 3, 3), wishes))

    def test_each_k(self):
        for k in (2, 3, 4):
            self.check(WEB, k)
            self.check((3, ((0, 1, 1), (1, 2, 99))), k)

    def test_no_ties_no_places(self):
        for k in (2, 3, 4):
            for n in (0, 1, 2, 10):
                self.assertEqual(sheet_of((n, ()), k), ((k,) * n, ()))

    def test_sixteen_wishes(self):
        ties = tuple((0, j, j) for j in range(1, 9))
        self.check((9, ties), 2)
        self.check((5, ties[:4]), 4)
        self.check((6, ties[:5]), 3)
        self.assertEqual([len(sheet_of((9, ties), 2)[1]), len(sheet_of((9, ties[:4]), 4)[1])], [16, 16])

    def test_too_many(self):
        for many, k in ((9, 2), (6, 3), (5, 4)):
            ties = full_web(5)[1][:many]
            self.refused(TooMany, sheet_of, (5, ties), k)
            self.check((5, ties[:-1]), k)
        for k in (2, 3, 4):
            self.refused(TooMany, sheet_of, full_web(10), k)

    def test_drawn_webs(self):
        draw = Draw(42)
        for turn in range(30):
            n, ties = drawn_web(draw, 5)
            for k in (2, 3, 4):
                self.check((n, ties[:16 // k]), k)


class OrderOfRefusals(Unchanged):
    def test_no_web_goes_ahead_of_all(self):
        for thing in NO_WEBS:
            for k in (2, 3, 4, 1, 5, None, True):
                self.refused(NoWeb, sheet_of, thing, k)

    def test_then_no_number(self):
        for k in NO_NUMBERS:
            self.refused(NoNumber, sheet_of, WEB, k)
            self.refused(NoNumber, sheet_of, (0, ()), k)
            self.refused(NoNumber, sheet_of, full_web(10), k)


if __name__ == "__main__":
    unittest.main()
