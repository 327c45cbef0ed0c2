"""What are shares, the means by them, the means of a place's ways, and the choosing rounded by them."""

import unittest
from fractions import Fraction
from math import prod

from meanchoice.chosen import chosen, most
from meanchoice.errors import NoPlace, NoShares, NoSheet
from meanchoice.means import mean
from meanchoice.shares import are_shares, mean_by, rounded, ways_by
from meanchoice.sheets import is_choosing, worth
from things import (
    BIG, EMPTY, NO_SHEETS, ODD_THINGS, OTHER_THINGS, SHEET, Draw, Unchanged, all_choosings, at_spot, drawn_sheet,
    drawn_wish, pair, spots, with_spot,
)

# Noughts and ones stand at many spots, so truths would pass there for numbers.
SHARES = ((1, 0), (1,), (0, 2, 1))

NO_SHARES = OTHER_THINGS + [
    (), (1, 1, 1), (1, 1, 1, 1, 1, 1), ((1, 0), (1,)), ((1, 0), (1,), (0, 2, 1), ()), ((1, 0), (1,), (0, 2, 1), (1,)),
    ((1, 0), (1,), (0, 2)), ((1, 0), (1,), (0, 2, 1, 1)), ((0, 0), (1,), (0, 2, 1)), ((1, 0), (0,), (0, 2, 1)),
    ((1, 0), (1,), (0, 0, 0)), ((1, -1), (1,), (0, 2, 1)), ((1, 0), (100,), (0, 2, 1)), [(1, 0), (1,), (0, 2, 1)],
    ([1, 0], (1,), (0, 2, 1)), ((1, 0), [1], (0, 2, 1)), ((1, 0), (True,), (0, 2, 1)), ((1, None), (1,), (0, 2, 1)),
]

NO_PLACES = ODD_THINGS + [3, 4, -2, -3, "2", (), (0,), (1,)]


def drawn_shares(draw, ways, high=9):
    """Numbers for each way, about one in three of them 0, one at least above 0 at each place."""
    told = []
    for many in ways:
        numbers = [draw.within(1, high) if draw.below(3) else 0 for way in range(many)]
        if not any(numbers):
            numbers[draw.below(many)] = draw.within(1, high)
        told.append(tuple(numbers))
    return tuple(told)


def mean_by_all(sheet, shares):
    """The mean by shares, by going through all choosings."""
    counts = [prod(shares[place][way] for place, way in enumerate(one)) for one in all_choosings(sheet)]
    worths = [worth(sheet, one) for one in all_choosings(sheet)]
    return Fraction(sum(count * told for count, told in zip(counts, worths)), sum(counts))


def with_way(shares, place, way):
    """The shares with this way alone at the place."""
    alone = tuple(int(other == way) for other in range(len(shares[place])))
    return shares[:place] + (alone,) + shares[place + 1:]


def rounded_by_all(sheet, shares):
    for place in range(len(shares)):
        means = {}
        for way, number in enumerate(shares[place]):
            if number > 0:
                means[way] = mean_by_all(sheet, with_way(shares, place, way))
        best = min(way for way in means if means[way] == max(means.values()))
        shares = with_way(shares, place, best)
    return tuple(numbers.index(1) for numbers in shares)


def drawn_pairs(seed, many=50):
    """Sheets with shares of theirs."""
    draw = Draw(seed)
    pairs = [(SHEET, SHARES), (EMPTY, ())]
    for turn in range(many):
        sheet = drawn_sheet(draw)
        pairs.append((sheet, drawn_shares(draw, sheet[0])))
    return pairs


def great_pair(seed):
    draw = Draw(seed)
    ways = (4,) * 10
    sheet = (ways, tuple(drawn_wish(draw, ways) for wish in range(16)))
    return (sheet, drawn_shares(draw, ways, 99))


class AreShares(Unchanged):
    def check(self, sheet, thing, wanted):
        self.assertIs(self.told(are_shares, sheet, thing), wanted, thing)

    def test_ordinary_ones(self):
        self.check(SHEET, SHARES, True)
        self.check(SHEET, ((3, 4), (5,), (6, 7, 8)), True)

    def test_numbers_at_the_edges(self):
        for number in (0, 1, 50, 98, 99):
            self.check(SHEET, ((number, 1), (1,), (1, number, 1)), True)
        self.check(SHEET, ((99, 99), (99,), (99, 99, 99)), True)
        for number in (-1, 100, 101, -99, BIG, -BIG):
            self.check(SHEET, ((number, 1), (1,), (1, 1, 1)), False)
            self.check(SHEET, ((1, 1), (1,), (1, 1, number)), False)
            self.check(((1,), ()), ((number,),), False)

    def test_one_way_above_nought(self):
        for one in all_choosings(SHEET):
            for number in (1, 99):
                shares = tuple(
                    tuple(number if way == one[place] else 0 for way in range(many))
                    for place, many in enumerate(SHEET[0])
                )
                self.check(SHEET, shares, True)

    def test_all_nought_at_a_place(self):
        self.check(SHEET, ((0, 0), (1,), (1, 1, 1)), False)
        self.check(SHEET, ((1, 1), (0,), (1, 1, 1)), False)
        self.check(SHEET, ((1, 1), (1,), (0, 0, 0)), False)
        self.check(SHEET, ((0, 0), (0,), (0, 0, 0)), False)

    def test_no_places(self):
        self.check(EMPTY, (), True)
        self.check(EMPTY, ((),), False)
        self.check(EMPTY, ((1,),), False)
        self.check(EMPTY, [], False)
        self.check(EMPTY, None, False)

    def test_a_number_more_or_fewer(self):
        for place in range(3):
            self.check(SHEET, with_spot(SHARES, (place,), SHARES[place] + (1,)), False)
            self.check(SHEET, with_spot(SHARES, (place,), SHARES[place] + (0,)), False)
            self.check(SHEET, with_spot(SHARES, (place,), SHARES[place][:-1]), False)
            self.check(SHEET, with_spot(SHARES, (place,), ()), False)

    def test_a_place_more_or_fewer(self):
        self.check(SHEET, SHARES + ((1,),), False)
        self.check(SHEET, SHARES + ((),), False)
        self.check(SHEET, SHARES[:-1], False)
        self.check(SHEET, (), False)

    def test_ten_places(self):
        sheet = ((4,) * 10, ())
        self.check(sheet, ((0, 0, 0, 99),) * 10, True)
        self.check(sheet, ((0, 0, 0, 99),) * 9 + ((0, 0, 0, 100),), False)
        self.check(sheet, ((0, 0, 0, 99),) * 11, False)
        self.check(sheet, ((0, 0, 0, 99),) * 9, False)

    def test_odd_things_at_each_spot(self):
        for path in spots(SHARES):
            for odd in ODD_THINGS + ["ab", "abc", ((),)]:
                self.check(SHEET, with_spot(SHARES, path, odd), False)
            here = at_spot(SHARES, path)
            if isinstance(here, tuple):
                self.check(SHEET, with_spot(SHARES, path, list(here)), False)
                self.check(SHEET, with_spot(SHARES, path, dict.fromkeys(range(len(here)), 1)), False)
                self.check(SHEET, with_spot(SHARES, path, len(here)), False)
            else:
                self.check(SHEET, with_spot(SHARES, path, (here,)), False)

    def test_other_things(self):
        for thing in NO_SHARES:
            self.check(SHEET, thing, False)


class MeanBy(Unchanged):
    def check(self, sheet, shares, wanted):
        told = self.told(mean_by, sheet, shares)
        self.check_fraction(told)
        self.assertEqual(told, wanted)

    def test_a_sheet(self):
        self.check(SHEET, SHARES, (50, 1))
        self.check(SHEET, ((1, 3), (5,), (0, 2, 1)), pair(40 + Fraction(3, 4) * Fraction(1, 3) + 5))

    def test_wishes_of_both_kinds(self):
        parts = ((0, (1,)), (1, (0, 2)))
        shares = ((3, 1), (1, 0, 4))
        self.check(((2, 3), (("all", 8, parts),)), shares, (2, 1))
        self.check(((2, 3), (("some", 8, parts),)), shares, (8, 1))
        shares = ((3, 1), (1, 2, 1))
        self.check(((2, 3), (("all", 8, parts),)), shares, (1, 1))
        self.check(((2, 3), (("some", 8, parts),)), shares, (5, 1))
        self.check(((2, 3), (("all", 8, ()), ("some", 7, ()), ("all", 6, ((0, ()),)))), shares, (8, 1))

    def test_against_all_choosings(self):
        for sheet, shares in drawn_pairs(21):
            self.check(sheet, shares, pair(mean_by_all(sheet, shares)))

    def test_by_numbers_one_it_is_the_mean_of_nothing_begun(self):
        for sheet, shares in drawn_pairs(22):
            self.check(sheet, tuple((1,) * many for many in sheet[0]), mean(sheet, ()))
            self.check(sheet, tuple((7,) * many for many in sheet[0]), mean(sheet, ()))

    def test_by_one_number_at_each_place_it_is_a_worth(self):
        for sheet, shares in drawn_pairs(23, 20):
            for one in all_choosings(sheet):
                alone = tuple(
                    tuple((place + 1) * 9 if way == one[place] else 0 for way in range(many))
                    for place, many in enumerate(sheet[0])
                )
                self.check(sheet, alone, (worth(sheet, one), 1))

    def test_all_numbers_of_a_place_times_one(self):
        for sheet, shares in drawn_pairs(24):
            wanted = mean_by(sheet, shares)
            for place in range(len(shares)):
                for number in (2, 11):
                    more = tuple(number * one for one in shares[place])
                    self.check(sheet, shares[:place] + (more,) + shares[place + 1:], wanted)

    def test_no_more_than_the_best(self):
        for sheet, shares in drawn_pairs(25):
            self.assertLessEqual(Fraction(*mean_by(sheet, shares)), most(sheet)[0])

    def test_a_great_sheet(self):
        sheet, shares = great_pair(26)
        with self.within_short():
            told = Fraction(*mean_by(sheet, shares))
        parted = Fraction(0)
        for kind, weight, parts in sheet[1]:
            chances = [Fraction(sum(shares[place][way] for way in some), sum(shares[place])) for place, some in parts]
            none = prod(1 - chance for chance in chances)
            parted += weight * (prod(chances) if kind == "all" else 1 - none)
        self.assertEqual(told, parted)

    def test_each_is_a_new_one(self):
        self.assertIsNot(mean_by(EMPTY, ()), mean_by(EMPTY, ()))


class WaysBy(Unchanged):
    def check(self, sheet, shares, place):
        told = self.told(ways_by, sheet, shares, place)
        self.assertIs(type(told), list)
        self.assertEqual(len(told), sheet[0][place])
        for way, fraction in enumerate(told):
            self.check_fraction(fraction)
            self.assertEqual(fraction, pair(mean_by_all(sheet, with_way(shares, place, way))))
            self.assertEqual(fraction, mean_by(sheet, with_way(shares, place, way)))
        counts = shares[place]
        whole = sum((count * Fraction(*fraction) for count, fraction in zip(counts, told)), Fraction(0)) / sum(counts)
        self.assertEqual(pair(whole), mean_by(sheet, shares))

    def test_a_sheet(self):
        for place in range(3):
            self.check(SHEET, SHARES, place)
        # A way of number 0 is told of, too.
        self.assertEqual(ways_by(SHEET, SHARES, 0), [(50, 1), (131, 3)])
        self.assertEqual(ways_by(SHEET, SHARES, 1), [(50, 1)])

    def test_way_by_way(self):
        for sheet, shares in drawn_pairs(27):
            for place in range(len(shares)):
                self.check(sheet, shares, place)

    def test_a_great_sheet(self):
        sheet, shares = great_pair(28)
        for place in range(10):
            with self.within_short():
                told = ways_by(sheet, shares, place)
            whole = sum(count * Fraction(*one) for count, one in zip(shares[place], told)) / sum(shares[place])
            self.assertEqual(pair(whole), mean_by(sheet, shares))

    def test_each_is_a_new_list(self):
        ways_by(SHEET, SHARES, 0).append(1)
        self.assertEqual(ways_by(SHEET, SHARES, 0), [(50, 1), (131, 3)])


class Rounded(Unchanged):
    def check(self, sheet, shares, wanted):
        told = self.told(rounded, sheet, shares)
        self.check_numbers(told)
        self.assertIs(is_choosing(sheet, told), True)
        self.assertEqual(told, wanted)
        self.assertGreaterEqual(worth(sheet, told), Fraction(*mean_by(sheet, shares)))
        for way, numbers in zip(told, shares):
            self.assertGreater(numbers[way], 0)

    def test_a_sheet(self):
        self.check(SHEET, SHARES, (0, 0, 1))
        self.check(SHEET, ((0, 1), (9,), (1, 1, 0)), (1, 0, 0))

    def test_ties(self):
        self.check(((2, 3, 4), ()), ((1, 1), (0, 1, 1), (0, 0, 1, 99)), (0, 1, 2))
        self.check(((4,), (("all", 5, ((0, (1, 3)),)),)), ((9, 1, 1, 9),), (1,))
        self.check(((4,), (("all", 5, ((0, (1, 3)),)),)), ((9, 0, 1, 9),), (3,))

    def test_better_ways_of_number_nought(self):
        sheet = ((4,), (("all", 9, ((0, (0,)),)), ("all", 5, ((0, (2,)),)), ("all", 7, ((0, (3,)),))))
        self.check(sheet, ((0, 1, 1, 0),), (2,))
        self.check(sheet, ((0, 1, 0, 0),), (1,))
        self.check(sheet, ((0, 1, 1, 1),), (3,))
        self.check(sheet, ((1, 99, 99, 99),), (0,))

    def test_the_places_ahead_are_as_chosen(self):
        # By place 0 way 1, place 1 has its way 0 best, though by the shares as they were it was way 1.
        wishes = (("all", 6, ((0, (1,)),)), ("all", 4, ((0, (1,)), (1, (0,)))), ("all", 3, ((0, (0,)), (1, (1,)))))
        self.check(((2, 2), wishes), ((9, 1), (1, 1)), (1, 0))

    def test_no_places(self):
        self.check(EMPTY, (), ())

    def test_by_numbers_one_it_is_chosen(self):
        for sheet, shares in drawn_pairs(29):
            self.check(sheet, tuple((1,) * many for many in sheet[0]), chosen(sheet))

    def test_against_all_choosings(self):
        for sheet, shares in drawn_pairs(30):
            self.check(sheet, shares, rounded_by_all(sheet, shares))

    def test_a_great_sheet(self):
        sheet, shares = great_pair(31)
        with self.within_short():
            told = rounded(sheet, shares)
        self.assertGreaterEqual(worth(sheet, told), Fraction(*mean_by(sheet, shares)))
        self.check(sheet, shares, told)


class OrderOfRefusals(Unchanged):
    def test_no_sheet_goes_ahead_of_all(self):
        for thing in NO_SHEETS:
            for shares in [SHARES, (), None, [1]]:
                self.refused(NoSheet, are_shares, thing, shares)
                self.refused(NoSheet, mean_by, thing, shares)
                self.refused(NoSheet, rounded, thing, shares)
                for place in (0, -1, None):
                    self.refused(NoSheet, ways_by, thing, shares, place)

    def test_then_no_shares(self):
        for thing in NO_SHARES:
            self.refused(NoShares, mean_by, SHEET, thing)
            self.refused(NoShares, rounded, SHEET, thing)
            for place in [0] + NO_PLACES:
                self.refused(NoShares, ways_by, SHEET, thing, place)
        self.refused(NoShares, mean_by, EMPTY, ((),))
        self.refused(NoShares, ways_by, EMPTY, ((),), 0)

    def test_then_no_place(self):
        for place in NO_PLACES:
            self.refused(NoPlace, ways_by, SHEET, SHARES, place)
        for place in [0, 1] + NO_PLACES:
            self.refused(NoPlace, ways_by, EMPTY, (), place)


if __name__ == "__main__":
    unittest.main()
