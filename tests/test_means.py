"""The mean of a begun choosing and how often a wish is kept, against all choosings and by other roads."""

import unittest
from fractions import Fraction

from meanchoice.errors import NoChoosing, NoNumber, NoSheet
from meanchoice.fractions import is_less
from meanchoice.means import kept_mean, mean
from meanchoice.sheets import is_kept, worth
from things import (
    BIG, EMPTY, NO_SHEETS, ODD_THINGS, OTHER_THINGS, SHEET, Draw, Unchanged, all_choosings, drawn_sheet, drawn_wish,
    mean_of_all, pair,
)

NOT_BEGUN = OTHER_THINGS + [
    (0, 0, 0, 0), (2,), (-1,), (0, 1), (0, 0, 3), (0, 0, -1), (2, 0, 0), [0], [0, 0, 0], {0: 0}, "000", (BIG, 0),
    (True,), (0, False), (0, 0, None), ("0",), ((0,),), ([0],),
]

NO_NUMBERS = ODD_THINGS + [3, 4, -2, -3, "2", (), (0,), (1,)]


def begun_ones(sheet):
    """All begun choosings, from nothing on."""
    return sorted({one[:many] for one in all_choosings(sheet) for many in range(len(one) + 1)})


def goings_on(sheet, begun):
    return [one for one in all_choosings(sheet) if one[:len(begun)] == begun]


def kept_walk(ways, wish, begun):
    """How often the wish is kept, by walking all places and counting begun choosings by whether parts are met."""
    kind, weight, parts = wish
    some_at = dict(parts)
    start = kind == "all"
    counts = {True: Fraction(start), False: Fraction(not start)}
    for place, many in enumerate(ways):
        new = {True: Fraction(0), False: Fraction(0)}
        open_ways = range(many) if place >= len(begun) else begun[place:place + 1]
        for way in open_ways:
            met = way in some_at[place] if place in some_at else start
            for so_far in (True, False):
                now = (so_far and met) if kind == "all" else (so_far or met)
                new[now] += counts[so_far] / len(open_ways)
        counts = new
    return counts[True]


def mean_walk(sheet, begun):
    ways, wishes = sheet
    return sum([wish[1] * kept_walk(ways, wish, begun) for wish in wishes], Fraction(0))


class MeanTest(Unchanged):
    def check_mean(self, sheet, begun, wanted):
        told = self.told(mean, sheet, begun)
        self.check_fraction(told)
        self.assertEqual(told, wanted)

    def check_kept(self, sheet, number, begun, wanted):
        told = self.told(kept_mean, sheet, number, begun)
        self.check_fraction(told)
        self.assertEqual(told, wanted)

    def check_all(self, sheet):
        """Each begun choosing of the sheet against all its goings-on."""
        for begun in begun_ones(sheet):
            ends = goings_on(sheet, begun)
            self.check_mean(sheet, begun, mean_of_all(worth(sheet, one) for one in ends))
            for number in range(len(sheet[1])):
                self.check_kept(sheet, number, begun, mean_of_all(is_kept(sheet, number, one) for one in ends))


class AgainstAllChoosings(MeanTest):
    def test_a_sheet(self):
        self.check_all(SHEET)
        self.check_mean(SHEET, (), (47, 1))
        self.check_mean(SHEET, (0,), (50, 1))
        self.check_mean(SHEET, (1,), (44, 1))
        self.check_mean(SHEET, (1, 0, 2), (51, 1))
        self.check_kept(SHEET, 0, (), (1, 3))
        self.check_kept(SHEET, 1, (), (2, 3))
        self.check_kept(SHEET, 2, (), (1, 1))
        self.check_kept(SHEET, 0, (0,), (0, 1))

    def test_drawn_sheets(self):
        draw = Draw(1)
        for turn in range(60):
            self.check_all(drawn_sheet(draw))

    def test_places_of_one_way(self):
        self.check_all(((1, 1, 1), (("all", 3, ((0, (0,)), (2, ()))), ("some", 5, ((0, ()), (2, (0,)))))))

    def test_lowest_terms(self):
        self.check_mean(((2, 2), (("all", 2, ((0, (1,)), (1, (1,)))),)), (), (1, 2))
        self.check_mean(((4,), (("all", 2, ((0, (1,)),)),)), (), (1, 2))
        self.check_mean(((3,), (("all", 3, ((0, (1,)),)),)), (), (1, 1))
        self.check_mean(((3,), (("all", 4, ((0, (0, 1)),)),)), (), (8, 3))


class Wishes(MeanTest):
    def check_wish(self, wish, wanted, weighted):
        """By a sheet of places of two, three and four ways, of nothing begun."""
        sheet = ((2, 3, 4), (wish,))
        self.check_kept(sheet, 0, (), wanted)
        self.check_mean(sheet, (), weighted)
        self.check_all(sheet)

    def test_all(self):
        self.check_wish(("all", 5, ((0, (1,)), (1, (0, 2)), (2, (3,)))), (1, 12), (5, 12))
        self.check_wish(("all", 12, ((1, (0,)),)), (1, 3), (4, 1))

    def test_some(self):
        self.check_wish(("some", 5, ((0, (1,)), (1, (0, 2)), (2, (3,)))), (7, 8), (35, 8))
        self.check_wish(("some", 12, ((1, (0,)),)), (1, 3), (4, 1))

    def test_without_parts(self):
        self.check_wish(("all", 7, ()), (1, 1), (7, 1))
        self.check_wish(("some", 7, ()), (0, 1), (0, 1))

    def test_parts_without_ways(self):
        self.check_wish(("all", 7, ((0, ()),)), (0, 1), (0, 1))
        self.check_wish(("all", 7, ((0, (1,)), (2, ()))), (0, 1), (0, 1))
        self.check_wish(("some", 7, ((0, ()),)), (0, 1), (0, 1))
        self.check_wish(("some", 8, ((0, (1,)), (2, ()))), (1, 2), (4, 1))

    def test_parts_with_all_ways(self):
        self.check_wish(("all", 7, ((0, (0, 1)), (1, (0, 1, 2)))), (1, 1), (7, 1))
        self.check_wish(("all", 7, ((0, (0, 1)), (1, (0,)))), (1, 3), (7, 3))
        self.check_wish(("some", 7, ((0, ()), (2, (0, 1, 2, 3)))), (1, 1), (7, 1))

    def test_weights_at_the_edges(self):
        self.check_wish(("all", 0, ((0, (0,)),)), (1, 2), (0, 1))
        self.check_wish(("some", 99, ((0, (0,)),)), (1, 2), (99, 2))


class NoPlacesNoWishes(MeanTest):
    def test_no_wishes(self):
        self.check_mean(EMPTY, (), (0, 1))
        self.check_mean(((2, 4), ()), (), (0, 1))
        self.check_mean(((2, 4), ()), (1, 3), (0, 1))

    def test_no_places(self):
        sheet = ((), (("all", 7, ()), ("some", 9, ()), ("all", 4, ())))
        self.check_mean(sheet, (), (11, 1))
        self.check_kept(sheet, 0, (), (1, 1))
        self.check_kept(sheet, 1, (), (0, 1))

    def test_each_is_a_new_one(self):
        self.assertIsNot(mean(EMPTY, ()), mean(EMPTY, ()))
        self.assertIsNot(mean(SHEET, ()), mean(SHEET, ()))
        self.assertIsNot(kept_mean(SHEET, 2, ()), kept_mean(SHEET, 2, ()))


class StepByStep(MeanTest):
    def sheets(self):
        draw = Draw(2)
        return [SHEET, EMPTY] + [drawn_sheet(draw) for turn in range(40)]

    def test_the_mean_of_a_choosing_is_its_worth(self):
        for sheet in self.sheets():
            for one in all_choosings(sheet):
                self.check_mean(sheet, one, (worth(sheet, one), 1))
                for number in range(len(sheet[1])):
                    self.check_kept(sheet, number, one, (int(is_kept(sheet, number, one)), 1))

    def test_the_mean_is_that_of_those_one_way_longer(self):
        for sheet in self.sheets():
            for begun in begun_ones(sheet):
                if len(begun) < len(sheet[0]):
                    many = sheet[0][len(begun)]
                    longer = [Fraction(*mean(sheet, begun + (way,))) for way in range(many)]
                    self.check_mean(sheet, begun, pair(sum(longer) / many))


class GreatSheets(MeanTest):
    def test_a_million_choosings(self):
        draw = Draw(3)
        ways = (4,) * 10
        for turn in range(3):
            sheet = (ways, tuple(drawn_wish(draw, ways) for wish in range(16)))
            for many in (0, 1, 5, 9, 10):
                begun = tuple(draw.below(4) for place in range(many))
                wanted = pair(mean_walk(sheet, begun))
                kept = [pair(kept_walk(ways, wish, begun)) for wish in sheet[1]]
                with self.within_short():
                    self.check_mean(sheet, begun, wanted)
                    for number in range(16):
                        self.check_kept(sheet, number, begun, kept[number])

    def test_wishes_of_all_ten_places(self):
        ways = (4,) * 10
        first = tuple((place, (0,)) for place in range(10))
        rest = tuple((place, (1, 2, 3)) for place in range(10))
        sheet = (ways, (("all", 99, first), ("some", 99, first), ("all", 1, rest), ("some", 1, rest)))
        every = 4 ** 10
        with self.within_short():
            kept = [Fraction(1, every), 1 - Fraction(3 ** 10, every), Fraction(3 ** 10, every), 1 - Fraction(1, every)]
            for number, wanted in enumerate(kept):
                self.check_kept(sheet, number, (), pair(wanted))
            self.check_mean(sheet, (), pair(99 * (kept[0] + kept[1]) + kept[2] + kept[3]))
            self.check_mean(sheet, (0,) * 9, pair(99 * Fraction(1, 4) + 99 + Fraction(3, 4)))
            self.check_mean((ways, sheet[1][:1]), (), (99, every))

    def test_the_walk_agrees_with_all_choosings(self):
        # So that the other road above is itself looked over where all choosings can be gone through.
        draw = Draw(4)
        for turn in range(20):
            sheet = drawn_sheet(draw)
            for begun in begun_ones(sheet):
                wanted = mean_of_all(worth(sheet, one) for one in goings_on(sheet, begun))
                self.assertEqual(pair(mean_walk(sheet, begun)), wanted)

    def test_some_way_is_worth_the_mean_at_least(self):
        draw = Draw(5)
        ways = (4,) * 10
        sheet = (ways, tuple(drawn_wish(draw, ways) for wish in range(16)))
        begun = ()
        with self.within_short():
            while len(begun) < 10:
                longer = [begun + (way,) for way in range(4)]
                self.assertTrue(any(not is_less(mean(sheet, one), mean(sheet, begun)) for one in longer))
                begun = longer[draw.below(4)]


class OrderOfRefusals(MeanTest):
    def test_no_sheet_goes_ahead_of_all(self):
        for thing in NO_SHEETS:
            for begun in [(), (0,), None, [0]]:
                self.refused(NoSheet, mean, thing, begun)
                for number in (0, -1, None):
                    self.refused(NoSheet, kept_mean, thing, number, begun)

    def test_then_no_choosing(self):
        for thing in NOT_BEGUN:
            self.refused(NoChoosing, mean, SHEET, thing)
            self.refused(NoChoosing, kept_mean, SHEET, 0, thing)
            for number in NO_NUMBERS:
                self.refused(NoChoosing, kept_mean, SHEET, number, thing)
        self.refused(NoChoosing, mean, EMPTY, (0,))
        self.refused(NoChoosing, kept_mean, EMPTY, 0, (0,))

    def test_then_no_number(self):
        for number in NO_NUMBERS:
            for begun in [(), (0,), (1, 0, 2)]:
                self.refused(NoNumber, kept_mean, SHEET, number, begun)
        for number in [0, 1] + NO_NUMBERS:
            self.refused(NoNumber, kept_mean, EMPTY, number, ())


if __name__ == "__main__":
    unittest.main()
