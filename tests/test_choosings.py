"""Begun choosings and choosings, kept wishes, worths, and the order of refusals."""

import unittest

from meanchoice.errors import NoChoosing, NoNumber, NoSheet
from meanchoice.sheets import is_begun, is_choosing, is_kept, worth
from things import BIG, EMPTY, NO_SHEETS, ODD_THINGS, OTHER_THINGS, SHEET, Unchanged, all_choosings

# None of these is a choosing of SHEET, begun or whole.
NOT_BEGUN = OTHER_THINGS + [
    (0, 0, 0, 0), (0, 0, 0, 0, 0), (2,), (-1,), (0, 1), (0, -1), (0, 0, 3), (0, 0, -1), (2, 0, 0), (0, 1, 0),
    [0], [0, 0], [0, 0, 0], [], {}, {0: 0, 1: 0, 2: 0}, "000", (BIG, 0, 0), (0, 0, -BIG), (0, (0,), 0), ((0, 0, 0),),
]

NO_NUMBERS = ODD_THINGS + [3, 4, -2, -3, "2", (), (0,), (1,)]


class Choosings(Unchanged):
    def check(self, sheet, thing, begun, whole):
        self.assertIs(self.told(is_begun, sheet, thing), begun, thing)
        self.assertIs(self.told(is_choosing, sheet, thing), whole, thing)

    def test_none_some_all_and_more(self):
        self.check(SHEET, (), True, False)
        self.check(SHEET, (0,), True, False)
        self.check(SHEET, (1,), True, False)
        self.check(SHEET, (1, 0), True, False)
        for choosing in all_choosings(SHEET):
            self.check(SHEET, choosing, True, True)
            self.check(SHEET, choosing + (0,), False, False)

    def test_no_places(self):
        self.check(EMPTY, (), True, True)
        self.check(EMPTY, (0,), False, False)
        self.check(EMPTY, [], False, False)
        self.check(EMPTY, None, False, False)

    def test_ten_places(self):
        sheet = ((4,) * 10, ())
        for many in range(10):
            self.check(sheet, (3,) * many, True, False)
        self.check(sheet, (3,) * 10, True, True)
        self.check(sheet, (3,) * 9 + (4,), False, False)
        self.check(sheet, (3,) * 11, False, False)

    def test_ways_beyond_and_below(self):
        for place, many in enumerate(SHEET[0]):
            for way in (many, many + 1, -1, -many, BIG, -BIG):
                for length in range(place + 1, 4):
                    choosing = tuple(way if at == place else 0 for at in range(length))
                    self.check(SHEET, choosing, False, False)

    def test_odd_things_at_each_place(self):
        for place in range(3):
            for odd in ODD_THINGS + [(), (0,), ((),)]:
                for length in range(place + 1, 4):
                    choosing = tuple(odd if at == place else 0 for at in range(length))
                    self.check(SHEET, choosing, False, False)

    def test_other_things(self):
        for thing in NOT_BEGUN:
            self.check(SHEET, thing, False, False)

    def test_no_sheet_goes_first(self):
        for thing in NO_SHEETS:
            for handed in [(), (0, 0, 0), None, [0]] + NOT_BEGUN:
                self.refused(NoSheet, is_begun, thing, handed)
                self.refused(NoSheet, is_choosing, thing, handed)


class Kept(Unchanged):
    def kept_by(self, wish, ways):
        """The choosings of the ways that keep the wish."""
        sheet = (ways, (("all", 7, ()), wish))
        return [one for one in all_choosings(sheet) if self.told(is_kept, sheet, 1, one) is True]

    def test_truths_alone(self):
        for choosing in all_choosings(SHEET):
            for number in range(3):
                self.assertIn(repr(is_kept(SHEET, number, choosing)), ("True", "False"))

    def test_all(self):
        self.assertEqual(self.kept_by(("all", 1, ((0, (1,)), (1, (0, 2)))), (2, 3)), [(1, 0), (1, 2)])
        self.assertEqual(self.kept_by(("all", 1, ((1, (1,)),)), (2, 3)), [(0, 1), (1, 1)])

    def test_some(self):
        wish = ("some", 1, ((0, (1,)), (1, (0, 2))))
        self.assertEqual(self.kept_by(wish, (2, 3)), [(0, 0), (0, 2), (1, 0), (1, 1), (1, 2)])
        self.assertEqual(self.kept_by(("some", 1, ((1, (1,)),)), (2, 3)), [(0, 1), (1, 1)])

    def test_without_parts(self):
        self.assertEqual(len(self.kept_by(("all", 1, ()), (2, 3))), 6)
        self.assertEqual(self.kept_by(("some", 1, ()), (2, 3)), [])
        self.assertEqual(self.kept_by(("all", 1, ()), ()), [()])
        self.assertEqual(self.kept_by(("some", 1, ()), ()), [])

    def test_parts_without_ways(self):
        self.assertEqual(self.kept_by(("all", 1, ((0, ()),)), (2, 2)), [])
        self.assertEqual(self.kept_by(("all", 1, ((0, ()), (1, (0, 1)))), (2, 2)), [])
        self.assertEqual(self.kept_by(("some", 1, ((0, ()),)), (2, 2)), [])
        self.assertEqual(self.kept_by(("some", 1, ((0, ()), (1, (1,)))), (2, 2)), [(0, 1), (1, 1)])

    def test_parts_with_all_ways(self):
        self.assertEqual(len(self.kept_by(("all", 1, ((0, (0, 1)), (1, (0, 1)))), (2, 2))), 4)
        self.assertEqual(self.kept_by(("all", 1, ((0, (0, 1)), (1, (0,)))), (2, 2)), [(0, 0), (1, 0)])
        self.assertEqual(len(self.kept_by(("some", 1, ((0, (0, 1)), (1, ()))), (2, 2))), 4)

    def test_the_weight_does_not_matter(self):
        for weight in (0, 1, 99):
            self.assertEqual(self.kept_by(("all", weight, ((0, (1,)),)), (2,)), [(1,)])
            self.assertEqual(self.kept_by(("some", weight, ((0, (1,)),)), (2,)), [(1,)])

    def test_by_number(self):
        told = [[is_kept(SHEET, number, one) for number in range(3)] for one in [(0, 0, 1), (1, 0, 0), (1, 0, 2)]]
        self.assertEqual(told, [[False, True, True], [True, False, True], [True, True, True]])

    def test_sixteen_wishes(self):
        wishes = tuple(("all" if number < 15 else "some", 1, ()) for number in range(16))
        self.assertEqual([is_kept(((), wishes), number, ()) for number in range(16)], [True] * 15 + [False])
        self.refused(NoNumber, is_kept, ((), wishes), 16, ())


class Worth(Unchanged):
    def test_sums_of_weights(self):
        told = [self.told(worth, SHEET, choosing) for choosing in all_choosings(SHEET)]
        self.assertEqual(told, [50, 50, 50, 41, 40, 51])
        self.assertEqual({type(one) for one in told}, {int})

    def test_no_wishes(self):
        self.assertEqual(repr(worth(EMPTY, ())), "0")
        self.assertEqual(repr(worth(((2, 2), ()), (1, 0))), "0")

    def test_no_places(self):
        self.assertEqual(worth(((), (("all", 7, ()), ("some", 9, ()))), ()), 7)

    def test_weights_at_the_edges(self):
        self.assertEqual(worth(((1,), (("all", 0, ()),)), (0,)), 0)
        self.assertEqual(worth(((1,), (("all", 99, ()),) * 16), (0,)), 1584)

    def test_like_wishes_count_each(self):
        wish = ("some", 3, ((0, (1,)),))
        self.assertEqual(worth(((2,), (wish, wish)), (1,)), 6)
        self.assertEqual(worth(((2,), (wish, wish)), (0,)), 0)

    def test_both_kinds(self):
        parts = ((0, (1,)), (1, (1,)))
        sheet = ((2, 2), (("all", 5, parts), ("some", 7, parts)))
        self.assertEqual([worth(sheet, one) for one in all_choosings(sheet)], [0, 7, 7, 12])

    def test_it_is_the_sum_of_what_is_kept(self):
        for choosing in all_choosings(SHEET):
            kept = [wish[1] for number, wish in enumerate(SHEET[1]) if is_kept(SHEET, number, choosing)]
            self.assertEqual(worth(SHEET, choosing), sum(kept))


class OrderOfRefusals(Unchanged):
    def test_no_sheet_goes_ahead_of_all(self):
        for thing in NO_SHEETS:
            self.refused(NoSheet, worth, thing, (0, 0, 0))
            self.refused(NoSheet, worth, thing, None)
            self.refused(NoSheet, is_kept, thing, 0, (0, 0, 0))
            self.refused(NoSheet, is_kept, thing, 0, [])
            self.refused(NoSheet, is_kept, thing, -1, (0, 0, 0))
            self.refused(NoSheet, is_kept, thing, None, None)

    def test_then_no_choosing(self):
        for thing in NOT_BEGUN + [(), (0,), (1, 0)]:
            self.refused(NoChoosing, worth, SHEET, thing)
            self.refused(NoChoosing, is_kept, SHEET, 0, thing)
            for number in NO_NUMBERS:
                self.refused(NoChoosing, is_kept, SHEET, number, thing)

    def test_then_no_number(self):
        for number in NO_NUMBERS:
            self.refused(NoNumber, is_kept, SHEET, number, (0, 0, 0))

    def test_no_wishes_no_numbers(self):
        for number in [0, 1, -1] + NO_NUMBERS:
            self.refused(NoNumber, is_kept, EMPTY, number, ())


if __name__ == "__main__":
    unittest.main()
