"""The means along a choosing, choosings that never fall, the one that is told, the most and the least."""

import unittest
from fractions import Fraction

from meanchoice.chosen import chosen, least, means_of, most, never_falls
from meanchoice.errors import NoChoosing, NoSheet, TooMany
from meanchoice.means import mean
from meanchoice.sheets import is_choosing, worth
from things import (
    EMPTY, NO_SHEETS, OTHER_THINGS, SHEET, Draw, Unchanged, all_choosings, drawn_sheet, drawn_wish, great_sheet,
    mean_of_all,
)

NO_CHOOSINGS = OTHER_THINGS + [
    (), (0,), (0, 0), (0, 0, 0, 0), (2, 0, 0), (0, 1, 0), (0, 0, 3), (0, 0, -1), [0, 0, 0], (0, 0, True), "000",
]


def drawn_sheets(seed, many=40):
    draw = Draw(seed)
    return [SHEET, EMPTY] + [drawn_sheet(draw) for turn in range(many)]


def chosen_by_all(sheet):
    """The choosing of the least ways of greatest mean, by going through all choosings."""
    begun = ()
    for many in sheet[0]:
        means = []
        for way in range(many):
            ends = [one for one in all_choosings(sheet) if one[:len(begun) + 1] == begun + (way,)]
            means.append(Fraction(sum(worth(sheet, one) for one in ends), len(ends)))
        begun += (means.index(max(means)),)
    return begun


class MeansAlong(Unchanged):
    def test_a_sheet(self):
        self.assertEqual(means_of(SHEET, (1, 0, 2)), [(47, 1), (44, 1), (44, 1), (51, 1)])
        self.assertEqual(means_of(SHEET, (0, 0, 1)), [(47, 1), (50, 1), (50, 1), (50, 1)])

    def test_one_more_than_places(self):
        for sheet in drawn_sheets(11):
            for one in all_choosings(sheet):
                told = self.told(means_of, sheet, one)
                self.assertIs(type(told), list)
                self.assertEqual(len(told), len(sheet[0]) + 1)
                self.assertEqual(told, [mean(sheet, one[:many]) for many in range(len(one) + 1)])
                self.assertEqual(told[0], mean_of_all(worth(sheet, other) for other in all_choosings(sheet)))
                self.assertEqual(told[-1], (worth(sheet, one), 1))
                for fraction in told:
                    self.check_fraction(fraction)

    def test_no_places(self):
        self.assertEqual(means_of(EMPTY, ()), [(0, 1)])
        self.assertEqual(means_of(((), (("all", 7, ()),)), ()), [(7, 1)])

    def test_each_is_a_new_list(self):
        told = means_of(SHEET, (1, 0, 2))
        told.append(1)
        told[0] = None
        self.assertEqual(means_of(SHEET, (1, 0, 2)), [(47, 1), (44, 1), (44, 1), (51, 1)])

    def test_ten_places(self):
        sheet = great_sheet(12)
        with self.within_short():
            told = means_of(sheet, (3, 2, 1, 0, 3, 2, 1, 0, 3, 2))
        self.assertEqual(len(told), 11)


class NeverFalls(Unchanged):
    def test_true_and_false(self):
        self.assertIs(self.told(never_falls, SHEET, (0, 0, 0)), True)
        self.assertIs(self.told(never_falls, SHEET, (0, 0, 2)), True)
        # It falls once and is worth more than the mean all the same.
        self.assertIs(self.told(never_falls, SHEET, (1, 0, 2)), False)
        self.assertIs(self.told(never_falls, SHEET, (1, 0, 0)), False)

    def test_a_fall_at_the_first_or_at_the_last_place(self):
        sheet = ((2, 2), (("all", 1, ((0, (0,)),)), ("all", 1, ((1, (0,)),))))
        told = [never_falls(sheet, one) for one in all_choosings(sheet)]
        self.assertEqual(told, [True, False, False, False])

    def test_means_that_stay(self):
        sheet = ((2, 3), (("all", 9, ()),))
        self.assertEqual([never_falls(sheet, one) for one in all_choosings(sheet)], [True] * 6)
        self.assertIs(never_falls(EMPTY, ()), True)

    def test_falls_by_a_little(self):
        # From 17/4 to 13/3 it rises, though 17 is more than 13; from 17/4 to 25/6 it falls, though 25 is more than 17.
        wishes = (("all", 13, ((0, (0,)), (1, (0,)))), ("all", 25, ((0, (1,)), (1, (0,)), (2, (0,)))))
        sheet = ((2, 3, 2), wishes)
        self.assertEqual(means_of(sheet, (0, 0, 0)), [(17, 4), (13, 3), (13, 1), (13, 1)])
        self.assertEqual(means_of(sheet, (1, 0, 0)), [(17, 4), (25, 6), (25, 2), (25, 1)])
        self.assertIs(never_falls(sheet, (0, 0, 0)), True)
        self.assertIs(never_falls(sheet, (1, 0, 0)), False)

    def test_against_the_means(self):
        seen = set()
        for sheet in drawn_sheets(13):
            for one in all_choosings(sheet):
                means = [Fraction(*told) for told in means_of(sheet, one)]
                wanted = means == sorted(means)
                seen.add(wanted)
                self.assertIs(self.told(never_falls, sheet, one), wanted)
                if wanted:
                    self.assertGreaterEqual(worth(sheet, one), means[0])
        self.assertEqual(seen, {True, False})


class Chosen(Unchanged):
    def check(self, sheet, wanted):
        told = self.told(chosen, sheet)
        self.check_numbers(told)
        self.assertIs(is_choosing(sheet, told), True)
        self.assertEqual(told, wanted)

    def test_a_sheet(self):
        self.check(SHEET, (0, 0, 0))

    def test_ties_between_ways(self):
        self.check(((2, 3, 4), ()), (0, 0, 0))
        self.check(((3,), (("all", 5, ((0, (1, 2)),)),)), (1,))
        self.check(((4,), (("all", 5, ((0, (1, 3)),)), ("all", 4, ((0, (2,)),)))), (1,))
        # Ways 1 and 2 are alike in the mean, not in what may become of them.
        self.check(((3, 2), (("all", 4, ((0, (1,)), (1, (1,)))), ("all", 2, ((0, (2,)),)))), (1, 1))

    def test_each_kind_of_wish(self):
        self.check(((2, 2), (("all", 4, ((0, (1,)), (1, (1,)))), ("some", 1, ((0, (0,)),)))), (1, 1))
        self.check(((2, 2), (("some", 4, ((0, (1,)), (1, (1,)))), ("all", 3, ((0, (0,)),)))), (0, 1))

    def test_the_last_way_of_each_place(self):
        self.check(((2, 3, 4), (("all", 9, ((0, (1,)), (1, (2,)), (2, (3,)))),)), (1, 2, 3))

    def test_no_places(self):
        self.check(EMPTY, ())
        self.check(((), (("all", 7, ()),)), ())

    def test_not_always_the_best(self):
        wishes = (("all", 9, ((0, (0,)), (1, (0,)))), ("all", 5, ((0, (1,)),)))
        self.check(((2, 2), wishes), (1, 0))
        self.assertEqual(most(((2, 2), wishes)), (9, (0, 0)))

    def test_against_all_choosings(self):
        for sheet in drawn_sheets(14):
            self.check(sheet, chosen_by_all(sheet))

    def test_it_never_falls(self):
        for sheet in drawn_sheets(15) + [great_sheet(16)]:
            told = chosen(sheet)
            self.assertIs(never_falls(sheet, told), True)
            self.assertGreaterEqual(worth(sheet, told), Fraction(*mean(sheet, ())))

    def test_ten_places(self):
        sheet = great_sheet(17)
        with self.within_short():
            told = chosen(sheet)
            begun = ()
            for place in range(10):
                means = [Fraction(*mean(sheet, begun + (way,))) for way in range(4)]
                begun += (means.index(max(means)),)
        self.assertEqual(told, begun)


class MostAndLeast(Unchanged):
    def check(self, sheet):
        worths = [worth(sheet, one) for one in all_choosings(sheet)]
        for function, wanted in ((most, max(worths)), (least, min(worths))):
            told = self.told(function, sheet)
            self.assertIs(type(told), tuple)
            number, choosing = told
            self.assertIs(type(number), int)
            self.assertEqual(number, wanted)
            self.check_numbers(choosing)
            self.assertEqual(worth(sheet, choosing), number)

    def test_a_sheet(self):
        self.check(SHEET)
        self.assertEqual(most(SHEET), (51, (1, 0, 2)))
        self.assertEqual(least(SHEET), (40, (1, 0, 1)))

    def test_no_places_no_wishes(self):
        self.check(EMPTY)
        self.assertEqual(most(EMPTY), (0, ()))
        self.assertEqual(least(((), (("all", 7, ()), ("some", 9, ())))), (7, ()))
        self.check(((2, 3), ()))

    def test_drawn_sheets(self):
        for sheet in drawn_sheets(18):
            self.check(sheet)

    def test_1024_choosings(self):
        draw = Draw(19)
        for ways in ((2,) * 10, (4,) * 5, (4, 1, 4, 1, 4, 1, 4, 1, 4, 1), (4, 4, 2, 2, 2, 2, 2, 2)):
            sheet = (ways, tuple(drawn_wish(draw, ways) for wish in range(16)))
            self.assertEqual(len(all_choosings(sheet)), 1024)
            self.check(sheet)

    def test_too_many(self):
        for ways in ((4, 4, 4, 3, 3, 2), (3, 3, 4, 4, 4, 2, 1), (4,) * 10, (2,) * 9 + (3,), (4, 4, 4, 4, 4, 2)):
            for wishes in ((), (("all", 5, ((0, (1,)),)),)):
                with self.within_short():
                    self.refused(TooMany, most, (ways, wishes))
                    self.refused(TooMany, least, (ways, wishes))

    def test_between(self):
        # 972 and 1024 are gone through, 1152 is the next count of choosings that there is.
        self.check(((4, 3, 3, 3, 3, 3), (("all", 5, ((0, (3,)), (5, (2,)))),)))

    def test_chosen_lies_between(self):
        for sheet in drawn_sheets(20):
            told = worth(sheet, chosen(sheet))
            self.assertLessEqual(least(sheet)[0], told)
            self.assertGreaterEqual(most(sheet)[0], told)
            self.assertLessEqual(least(sheet)[0], Fraction(*mean(sheet, ())))
            self.assertGreaterEqual(most(sheet)[0], Fraction(*mean(sheet, ())))


class OrderOfRefusals(Unchanged):
    def test_no_sheet_goes_ahead_of_all(self):
        for thing in NO_SHEETS:
            for function in (chosen, most, least):
                self.refused(NoSheet, function, thing)
            for choosing in [(), (0, 0, 0), None, [0]]:
                self.refused(NoSheet, means_of, thing, choosing)
                self.refused(NoSheet, never_falls, thing, choosing)
        # No sheet and too many choosings.
        for thing in (((4,) * 10, (("all", 100, ()),)), ((4,) * 11, ()), ((5,) * 10, ()), [(4,) * 10, ()]):
            self.refused(NoSheet, most, thing)
            self.refused(NoSheet, least, thing)

    def test_then_no_choosing(self):
        for thing in NO_CHOOSINGS:
            self.refused(NoChoosing, means_of, SHEET, thing)
            self.refused(NoChoosing, never_falls, SHEET, thing)
        self.refused(NoChoosing, means_of, EMPTY, (0,))
        self.refused(NoChoosing, never_falls, EMPTY, [])


if __name__ == "__main__":
    unittest.main()
