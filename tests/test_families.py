"""Families: whether they are even, the means by them, the first of those worth most, and those of two ways."""

import itertools
import unittest
from collections import Counter
from fractions import Fraction
from math import prod

from meanchoice.errors import NoChoosing, NoNumber, NoSheet, NoWays
from meanchoice.families import best_of, family_mean, is_even, twos
from meanchoice.means import mean
from meanchoice.sheets import worth
from things import (
    BIG, EMPTY, NO_SHEETS, NO_WAYS, ODD_THINGS, OTHER_THINGS, SHEET, Draw, Unchanged, all_choosings, drawn_choosing,
    drawn_sheet, drawn_wish, mean_of_all,
)

WAYS = (2, 3, 2)

# None of these is a choosing of WAYS, begun ones among them.
NO_CHOOSINGS = OTHER_THINGS + [
    (), (0,), (0, 0), (0, 0, 0, 0), (2, 0, 0), (0, 3, 0), (0, 0, 2), (0, -1, 0), [0, 0, 0], (0, 0, True), (False, 0, 0),
    (0, None, 0), (0, "0", 0), (0, (0,), 0), "000", {0: 0}, (BIG, 0, 0),
]

NO_NUMBERS = ODD_THINGS + [4, 5, -2, "2", (), (2,), [2], {2: 2}]


def all_of(ways):
    return list(itertools.product(*[range(many) for many in ways]))


def is_even_by_counts(ways, family, k):
    """By counting, for each k places, each of their ways together."""
    for places in itertools.combinations(range(len(ways)), k):
        counts = Counter(tuple(one[place] for place in places) for one in family)
        if len(counts) != prod(ways[place] for place in places) or len(set(counts.values())) != 1:
            return False
    return True


# Eight choosings of four places of two ways, even by 3 and not by 4: those with an even sum.
EVEN_SUMS = [one for one in all_of((2, 2, 2, 2)) if sum(one) % 2 == 0]

# Nine choosings of four places of three ways, even by 2 and not by 3.
NINE = [(a, b, (a + b) % 3, (a + 2 * b) % 3) for a in range(3) for b in range(3)]


class IsEven(Unchanged):
    def check(self, ways, family, k, wanted):
        self.assertIs(self.told(is_even, ways, family, k), wanted)

    def check_each(self, ways, family, greatest):
        """That it is even by each k up to the greatest and by none above."""
        for k in range(len(ways) + 1):
            self.assertEqual(is_even_by_counts(ways, family, k), k <= greatest)
            self.check(ways, family, k, k <= greatest)

    def test_all_choosings(self):
        for ways in ((), (1,), (4,), WAYS, (1, 1), (4, 1, 3), (2, 2, 2, 2)):
            for often in (1, 2, 3):
                self.check_each(ways, all_of(ways) * often, len(ways))

    def test_even_by_few_places(self):
        self.check_each((2, 2, 2, 2), EVEN_SUMS, 3)
        self.check_each((2, 2, 2, 2), EVEN_SUMS * 3, 3)
        self.check_each((3, 3, 3, 3), NINE, 2)
        self.check_each((2, 2), [(0, 0), (1, 1)], 1)
        self.check_each((2, 2), [(0, 1), (1, 1)], 0)
        self.check_each((2, 3), [(0, 0), (1, 0), (0, 1), (1, 1), (0, 2), (0, 2)], 0)

    def test_the_order_does_not_matter(self):
        draw = Draw(111)
        for turn in range(5):
            self.check_each((2, 2, 2, 2), list(draw.shuffled(EVEN_SUMS)), 3)
            self.check_each((3, 3, 3, 3), list(draw.shuffled(NINE * 2)), 2)

    def test_uneven_at_the_first_or_at_the_last_places(self):
        # Places 0 and 1 go apart, 2 and 3 go together, and the other way round.
        self.check_each((2, 2, 2, 2), [(a, b, c, c) for a, b, c in all_of((2, 2, 2))], 1)
        self.check_each((2, 2, 2, 2), [(c, c, a, b) for a, b, c in all_of((2, 2, 2))], 1)
        self.check_each((2, 2, 2, 2), [(c, a, b, c) for a, b, c in all_of((2, 2, 2))], 1)
        self.check_each((2, 2, 2), [(a, b, 0) for a, b in all_of((2, 2))], 0)
        self.check_each((2, 2, 2), [(0, a, b) for a, b in all_of((2, 2))], 0)

    def test_a_choosing_more_or_fewer(self):
        for ways, family in (((2, 2, 2, 2), EVEN_SUMS), ((3, 3, 3, 3), NINE), (WAYS, all_of(WAYS))):
            self.check_each(ways, family[1:], 0)
            self.check_each(ways, family[:-1], 0)
            self.check_each(ways, family + [family[3]], 0)

    def test_a_way_that_never_stands(self):
        # The ways that stand do so as often as one another; one of the place does not.
        self.check_each((3,), [(0,), (1,)], 0)
        self.check_each((3, 2), [(0, 0), (0, 1), (2, 0), (2, 1)], 0)
        self.check_each((2, 2, 2), [(0, 0, 0), (1, 1, 1)], 1)

    def test_one_choosing(self):
        self.check_each(WAYS, [(1, 2, 0)], 0)
        self.check_each((1, 1, 1), [(0, 0, 0)], 3)
        self.check_each((), [()], 0)
        self.check_each((), [(), ()], 0)

    def test_drawn_lists(self):
        draw = Draw(112)
        seen = Counter()
        for turn in range(300):
            ways = tuple(draw.within(1, 3) for place in range(draw.within(1, 3)))
            family = [drawn_choosing(draw, ways) for one in range(draw.within(1, 8))]
            for k in range(len(ways) + 1):
                wanted = is_even_by_counts(ways, family, k)
                seen[k, wanted] += 1
                self.check(ways, family, k, wanted)
        self.assertGreater(min(seen[k, wanted] for k in (1, 2) for wanted in (True, False)), 5)

    def test_an_empty_list(self):
        for ways in ((), (2,), WAYS):
            for k in range(len(ways) + 1):
                self.check(ways, [], k, False)

    def test_what_is_no_choosing(self):
        for thing in NO_CHOOSINGS:
            for k in range(4):
                self.check(WAYS, [thing], k, False)
                self.check(WAYS, all_of(WAYS) + [thing], k, False)
                self.check(WAYS, [thing] + all_of(WAYS), k, False)
        for thing in [(0,), [], None]:
            self.check((), [thing], 0, False)

    def test_4096(self):
        for ways, family in (((2,) * 10, all_of((2,) * 10) * 4), ((4,) * 6, all_of((4,) * 6)), ((1,), [(0,)] * 4096)):
            self.assertEqual(len(family), 4096)
            for k in (0, 1, len(ways)):
                with self.within_short():
                    self.check(ways, family, k, True)
                    self.check(ways, family + family[:1], k, False)
            self.check(ways, [family[-1]] + family[1:], 0, True)

    def test_uneven_lists_of_4096(self):
        family = all_of((2,) * 10) * 4
        changed = family[:-1] + [(0,) * 10]
        for k in range(11):
            with self.within_short():
                self.check((2,) * 10, changed, k, k == 0)

    def test_great_families_by_half_of_the_places(self):
        # Even by 5 of ten places: what takes the longest to go through.
        family = all_of((2,) * 10) * 4
        with self.within_short(5):
            self.check((2,) * 10, family, 5, True)
        # Even by 3 and by no more: the last place goes by the first three.
        family = [one + (one[0] ^ one[1] ^ one[2],) for one in all_of((4,) * 6)]
        for k in range(8):
            with self.within_short(5):
                self.check((4,) * 7, family, k, k <= 3)

    def test_too_long_lists(self):
        for many in (4097, 4098, 8192):
            self.check((1,), [(0,)] * many, 1, False)
            self.check((1,), [(0,)] * many, 0, False)
            self.check((), [()] * many, 0, False)
        self.check((), [()] * 4096, 0, True)


class FamilyMeanAndBest(Unchanged):
    def check(self, sheet, family):
        worths = [worth(sheet, one) for one in family]
        told = self.told(family_mean, sheet, family)
        self.check_fraction(told)
        self.assertEqual(told, mean_of_all(worths))
        best = self.told(best_of, sheet, family)
        self.check_numbers(best)
        self.assertEqual(best, family[worths.index(max(worths))])
        self.assertGreaterEqual(worth(sheet, best), Fraction(*told))

    def test_a_sheet(self):
        # The worths are 50, 50, 50, 41, 40, 51.
        family = all_choosings(SHEET)
        self.check(SHEET, family)
        self.assertEqual(family_mean(SHEET, family), (47, 1))
        self.assertEqual(best_of(SHEET, family), (1, 0, 2))
        self.assertEqual(family_mean(SHEET, [(1, 0, 1), (0, 0, 0)]), (45, 1))
        self.assertEqual(family_mean(SHEET, [(1, 0, 1), (1, 0, 0)]), (81, 2))

    def test_some_more_often(self):
        self.assertEqual(family_mean(SHEET, [(1, 0, 1), (1, 0, 1), (0, 0, 0)]), (130, 3))
        self.check(SHEET, [(1, 0, 1), (1, 0, 1), (0, 0, 0), (1, 0, 1)])

    def test_the_first_of_those_worth_most(self):
        self.assertEqual(best_of(SHEET, [(1, 0, 1), (0, 0, 2), (0, 0, 0), (0, 0, 1), (0, 0, 2)]), (0, 0, 2))
        self.assertEqual(best_of(SHEET, [(0, 0, 1), (0, 0, 0)]), (0, 0, 1))
        self.assertEqual(best_of(((2, 2), ()), [(1, 1), (0, 0)]), (1, 1))

    def test_of_one_choosing(self):
        for one in all_choosings(SHEET):
            self.check(SHEET, [one])

    def test_no_places(self):
        self.check(EMPTY, [()])
        self.check(((), (("all", 7, ()),)), [(), ()])
        self.assertEqual(family_mean(((), (("all", 7, ()),)), [(), ()]), (7, 1))

    def test_drawn_ones(self):
        draw = Draw(113)
        for turn in range(60):
            sheet = drawn_sheet(draw)
            self.check(sheet, [drawn_choosing(draw, sheet[0]) for one in range(draw.within(1, 12))])

    def test_4096(self):
        draw = Draw(114)
        ways = (4,) * 10
        sheet = (ways, tuple(drawn_wish(draw, ways) for wish in range(16)))
        family = [drawn_choosing(draw, ways) for one in range(4096)]
        with self.within_short(4):
            told = family_mean(sheet, family)
            best = best_of(sheet, family)
        self.assertGreaterEqual(worth(sheet, best), Fraction(*told))
        self.refused(NoChoosing, family_mean, sheet, family + family[:1])
        self.refused(NoChoosing, best_of, sheet, family + family[:1])

    def test_an_even_family_has_the_mean_of_all(self):
        draw = Draw(115)
        ones = [((2, 2, 2, 2), EVEN_SUMS, 3), ((3, 3, 3, 3), NINE, 2), ((2,) * 10, twos(10), 2), ((2,) * 7, twos(7), 2)]
        for ways, family, k in ones:
            for turn in range(10):
                wishes = tuple(drawn_wish(draw, ways, k) for wish in range(draw.within(0, 16)))
                self.assertTrue(all(len(wish[2]) <= k for wish in wishes))
                self.assertEqual(family_mean((ways, wishes), family), mean((ways, wishes), ()))
                told = best_of((ways, wishes), family)
                self.assertGreaterEqual(worth((ways, wishes), told), Fraction(*mean((ways, wishes), ())))

    def test_wishes_of_more_parts_may_have_another_mean(self):
        sheet = ((2, 2, 2, 2), (("all", 16, tuple((place, (1,)) for place in range(4))),))
        self.assertEqual(family_mean(sheet, EVEN_SUMS), (2, 1))
        self.assertEqual(mean(sheet, ()), (1, 1))

    def test_what_is_told_is_a_new_one(self):
        one = (1, 0, 2)
        self.assertIsNot(best_of(SHEET, [one]), one)
        self.assertIsNot(family_mean(EMPTY, [()]), family_mean(EMPTY, [()]))


class Twos(Unchanged):
    def test_few_places(self):
        self.assertEqual(twos(0), [()])
        self.assertEqual(twos(1), [(0,), (1,)])
        self.assertEqual(twos(2), [(0, 0), (1, 0), (0, 1), (1, 1)])
        self.assertEqual(twos(3), [(0, 0, 0), (1, 0, 1), (0, 1, 1), (1, 1, 0)])

    def test_how_many(self):
        self.assertEqual([len(twos(n)) for n in range(11)], [1, 2, 4, 4, 8, 8, 8, 8, 16, 16, 16])

    def test_by_the_figures(self):
        for n in range(11):
            told = twos(n)
            self.assertIs(type(told), list)
            for number, one in enumerate(told):
                self.check_numbers(one)
                self.assertEqual(one, tuple(bin(number & (place + 1)).count("1") % 2 for place in range(n)))

    def test_even_by_two(self):
        for n in range(11):
            told = twos(n)
            for k in range(min(n, 2) + 1):
                self.assertIs(is_even((2,) * n, told, k), True)
        self.assertIs(is_even((2,) * 3, twos(3), 3), False)
        self.assertIs(is_even((2,) * 10, twos(10), 3), False)

    def test_a_new_list_each_time(self):
        for n in (0, 1, 10):
            told = twos(n)
            before = list(told)
            told.append(None)
            told[0] = 5
            self.assertEqual(twos(n), before)

    def test_no_number(self):
        for thing in ODD_THINGS + [11, 12, -2, BIG, "5", (), (5,), [5], {5: 5}]:
            self.refused(NoNumber, twos, thing)


class OrderOfRefusals(Unchanged):
    def test_no_ways_goes_ahead_of_all(self):
        for thing in NO_WAYS:
            for family in [[()], [], [(0, 0)], [None]]:
                for k in (0, -1, 99, None):
                    self.refused(NoWays, is_even, thing, family, k)

    def test_then_no_number(self):
        for k in NO_NUMBERS:
            for family in [all_of(WAYS), [], [None], [(0, 0, 0)] * 4097]:
                self.refused(NoNumber, is_even, WAYS, family, k)
        for n in range(5):
            self.refused(NoNumber, is_even, (2,) * n, [(0,) * n], n + 1)
            self.refused(NoNumber, is_even, (2,) * n, [(0,) * n], -1)

    def test_no_sheet_goes_ahead_of_all(self):
        for thing in NO_SHEETS:
            for family in [[()], [], [(0, 0, 0)], [None]]:
                self.refused(NoSheet, family_mean, thing, family)
                self.refused(NoSheet, best_of, thing, family)

    def test_then_no_choosing(self):
        sheet = (WAYS, (("all", 5, ((0, (1,)),)),))
        families = [[], [(0, 0, 0)] * 4097]
        for thing in NO_CHOOSINGS:
            families += [[thing], [(0, 0, 0), thing], [thing, (0, 0, 0)], [(0, 0, 0), thing, (1, 2, 1)]]
        for family in families:
            self.refused(NoChoosing, family_mean, sheet, family)
            self.refused(NoChoosing, best_of, sheet, family)
        for family in ([], [(0,)], [[]], [()] * 4097):
            self.refused(NoChoosing, family_mean, EMPTY, family)
            self.refused(NoChoosing, best_of, EMPTY, family)


if __name__ == "__main__":
    unittest.main()
