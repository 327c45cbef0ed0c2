"""Sides of a web: what they part, the told ones, whether they are settled, and what settled ones come of them."""

import itertools
import unittest
from fractions import Fraction

from meanchoice.errors import NoNumber, NoSides, NoWeb
from meanchoice.sheets import worth
from meanchoice.sides import are_settled, parted, settled, sides_by
from meanchoice.webs import sheet_of
from things import BIG, NO_WEBS, ODD_THINGS, OTHER_THINGS, Draw, Unchanged, drawn_web, full_web, great_webs

# A ring of four places and one tie across it.
WEB = (4, ((0, 1, 3), (0, 3, 2), (1, 2, 5), (1, 3, 4), (2, 3, 7)))

NONE = (0, ())

NO_NUMBERS = ODD_THINGS + [0, 1, 5, 6, -2, -3, "2", "3", (), (2,), [2], {2: 2}]

# None of these is sides of WEB by 3.
NO_SIDES = OTHER_THINGS + [
    (), (0, 0, 0), (0, 0, 0, 0, 0), (3, 0, 0, 0), (0, 0, 0, 3), (0, -1, 0, 0), (0, 0, 4, 0), [0, 0, 0, 0],
    (0, 0, 0, True), (False, 0, 0, 0), (0, None, 0, 0), (0, "0", 0, 0), (0, [0], 0, 0), (0, (0,), 0, 0), (0, 0, BIG, 0),
    (0, 0, {}, 0), "0000", {0: 0, 1: 0, 2: 0, 3: 0}, ((0, 0, 0, 0),), (-BIG, 0, 0, 0),
]


def parted_by(web, sides):
    return sum(weight for i, j, weight in web[1] if sides[i] != sides[j])


def weights_of(web):
    return sum(weight for i, j, weight in web[1])


def all_but_a_kth(web, k):
    return weights_of(web) - Fraction(weights_of(web), k)


def put(sides, place, side):
    return sides[:place] + (side,) + sides[place + 1:]


def told_sides(web, k):
    """The sides of 13, by trying each number with the ties among the places so far."""
    sides = ()
    for place in range(web[0]):
        ahead = (place + 1, tuple(tie for tie in web[1] if tie[1] <= place))
        parts = [parted_by(ahead, sides + (side,)) for side in range(k)]
        sides += (parts.index(max(parts)),)
    return sides


def settled_from(web, k, sides):
    """What comes of the sides, by trying whole sides one by one."""
    moved = True
    while moved:
        moved = False
        for place in range(web[0]):
            parts = [parted_by(web, put(sides, place, side)) for side in range(k)]
            if max(parts) > parted_by(web, sides):
                sides, moved = put(sides, place, parts.index(max(parts))), True
                break
    return sides


def is_settled_by_all(web, k, sides):
    others = [put(sides, place, side) for place in range(web[0]) for side in range(k)]
    return all(parted_by(web, other) <= parted_by(web, sides) for other in others)


def drawn_webs(seed, many=40, most_places=6, most_weight=99):
    draw = Draw(seed)
    return [WEB, NONE, (1, ()), (10, ())] + [drawn_web(draw, most_places, most_weight) for turn in range(many)]


def drawn_sides(draw, n, k):
    return tuple(draw.below(k) for place in range(n))


class Parted(Unchanged):
    def check(self, web, k, sides, wanted):
        told = self.told(parted, web, k, sides)
        self.assertIs(type(told), int)
        self.assertEqual(told, wanted)

    def test_like_and_unlike_sides(self):
        self.check(WEB, 2, (0, 0, 0, 0), 0)
        self.check(WEB, 2, (1, 1, 1, 1), 0)
        self.check(WEB, 2, (0, 1, 0, 0), 12)
        self.check(WEB, 2, (1, 0, 1, 0), 17)
        self.check(WEB, 3, (2, 2, 2, 2), 0)
        self.check(WEB, 3, (0, 1, 2, 0), 19)
        self.check(WEB, 3, (0, 1, 0, 2), 21)
        self.check(WEB, 4, (0, 1, 2, 3), 21)
        self.check(WEB, 4, (3, 3, 2, 3), 12)

    def test_no_places_no_ties(self):
        for k in (2, 3, 4):
            self.check(NONE, k, (), 0)
            self.check((1, ()), k, (k - 1,), 0)
            self.check((3, ()), k, (0, 1, k - 1), 0)

    def test_all_ties_of_ten_places(self):
        self.check(full_web(10), 2, (0, 1) * 5, 25)
        self.check(full_web(10, 99), 2, (0,) * 9 + (1,), 891)
        self.check(full_web(10, 99), 4, (0, 1, 2, 3, 0, 1, 2, 3, 0, 1), 99 * 37)

    def test_all_sides(self):
        for web in drawn_webs(51, 15, 5):
            for k in (2, 3, 4):
                for sides in itertools.islice(itertools.product(range(k), repeat=web[0]), 1024):
                    self.check(web, k, sides, parted_by(web, sides))

    def test_by_the_sheet_of_the_web(self):
        web = (4, WEB[1][:4])
        for k in (2, 3, 4):
            sheet = sheet_of(web, k)
            for sides in itertools.product(range(k), repeat=4):
                self.check(web, k, sides, worth(sheet, sides) - (k - 1) * 14)


class SidesBy(Unchanged):
    def check(self, web, k, wanted):
        told = self.told(sides_by, web, k)
        self.check_numbers(told)
        self.assertEqual(told, wanted)
        self.assertGreaterEqual(parted(web, k, told), all_but_a_kth(web, k))

    def test_place_by_place(self):
        self.check(WEB, 2, (0, 1, 0, 1))
        self.check(WEB, 3, (0, 1, 0, 2))
        self.check(WEB, 4, (0, 1, 0, 2))

    def test_ties_to_places_behind_do_not_count(self):
        # Place 1 would go from place 2, were that put ahead of it.
        self.check((3, ((0, 2, 9), (1, 2, 99))), 2, (0, 0, 1))
        self.check((3, ((0, 1, 1), (1, 2, 99))), 2, (0, 1, 0))

    def test_the_least_number(self):
        # Place 2 parts as much with either number.
        self.check((3, ((0, 1, 5), (0, 2, 4), (1, 2, 4))), 2, (0, 1, 0))
        self.check((3, ((0, 1, 5), (0, 2, 4), (1, 2, 4))), 3, (0, 1, 2))
        self.check((3, ((0, 1, 5), (0, 2, 4), (1, 2, 3))), 2, (0, 1, 1))
        self.check((4, ((0, 3, 1), (1, 3, 1), (2, 3, 1))), 4, (0, 0, 0, 1))

    def test_no_places_no_ties(self):
        for k in (2, 3, 4):
            for n in (0, 1, 2, 10):
                self.check((n, ()), k, (0,) * n)

    def test_all_ties_of_ten_places(self):
        for weight in (1, 99):
            self.check(full_web(10, weight), 2, (0, 1) * 5)
            self.check(full_web(10, weight), 3, (0, 1, 2) * 3 + (0,))
            self.check(full_web(10, weight), 4, (0, 1, 2, 3) * 2 + (0, 1))

    def test_drawn_webs(self):
        for web in drawn_webs(52) + drawn_webs(53, 40, 7, 3) + great_webs(54):
            for k in (2, 3, 4):
                self.check(web, k, told_sides(web, k))


class AreSettled(Unchanged):
    def check(self, web, k, sides, wanted):
        self.assertIs(self.told(are_settled, web, k, sides), wanted)

    def test_true_and_false(self):
        self.check(WEB, 2, (0, 1, 0, 1), True)
        self.check(WEB, 2, (1, 0, 1, 0), True)
        self.check(WEB, 2, (0, 0, 0, 0), False)
        # The last place alone is not settled, then the first one alone.
        self.check((3, ((0, 1, 9), (1, 2, 1))), 2, (0, 1, 1), False)
        self.check((3, ((0, 1, 1), (1, 2, 9))), 2, (1, 1, 0), False)

    def test_as_much_is_not_more(self):
        # Place 2 parts 4 with either number.
        self.check((3, ((0, 1, 5), (0, 2, 4), (1, 2, 4))), 2, (0, 1, 0), True)
        self.check((3, ((0, 1, 5), (0, 2, 4), (1, 2, 4))), 2, (0, 1, 1), True)
        self.check((3, ((0, 1, 5), (0, 2, 4), (1, 2, 4))), 3, (0, 1, 1), False)
        self.check((3, ((0, 1, 5), (0, 2, 4), (1, 2, 4))), 3, (0, 1, 2), True)

    def test_settled_but_not_the_best(self):
        # Two pairs, each on one side with the other one's half: no one place alone parts more.
        web = (4, ((0, 1, 1), (0, 2, 1), (1, 3, 1), (2, 3, 1)))
        self.check(web, 2, (0, 0, 1, 1), True)
        self.assertEqual([parted(web, 2, (0, 0, 1, 1)), parted(web, 2, (0, 1, 1, 0))], [2, 4])

    def test_no_places_no_ties(self):
        for k in (2, 3, 4):
            self.check(NONE, k, (), True)
            self.check((2, ()), k, (k - 1, 0), True)

    def test_all_sides(self):
        seen = set()
        for web in drawn_webs(55, 15, 5, 4):
            for k in (2, 3, 4):
                for sides in itertools.islice(itertools.product(range(k), repeat=web[0]), 300):
                    wanted = is_settled_by_all(web, k, sides)
                    seen.add((k, wanted))
                    self.check(web, k, sides, wanted)
                    if wanted:
                        self.assertGreaterEqual(parted(web, k, sides), all_but_a_kth(web, k))
        self.assertEqual(len(seen), 6)


class Settled(Unchanged):
    def check(self, web, k, sides, wanted):
        told = self.told(settled, web, k, sides)
        self.check_numbers(told)
        self.assertEqual(told, wanted)
        self.assertIs(are_settled(web, k, told), True)
        self.assertGreaterEqual(parted(web, k, told), parted(web, k, sides))
        self.assertGreaterEqual(parted(web, k, told), all_but_a_kth(web, k))

    def test_from_one_side(self):
        # 0 goes over, then 1, by which 0 goes back, then 2.
        self.check(WEB, 2, (0, 0, 0, 0), (0, 1, 1, 0))
        self.check(WEB, 2, (1, 1, 1, 1), (1, 0, 0, 1))
        for web in drawn_webs(56) + great_webs(57):
            for k in (2, 3, 4):
                for side in range(k):
                    sides = (side,) * web[0]
                    self.check(web, k, sides, settled_from(web, k, sides))

    def test_the_least_place_goes_first(self):
        # Of each pair either end might go over; the lesser one does, and the other one stays.
        self.check((2, ((0, 1, 5),)), 2, (0, 0), (1, 0))
        self.check((3, ((1, 2, 5),)), 2, (0, 0, 0), (0, 1, 0))
        self.check((4, ((0, 1, 5), (2, 3, 5))), 3, (2, 2, 2, 2), (0, 2, 0, 2))
        # Place 0 goes from place 1, by which less is gained than by place 1 from place 2.
        self.check((3, ((0, 1, 1), (1, 2, 9))), 2, (0, 0, 0), (0, 1, 0))

    def test_the_least_number_that_is_best(self):
        self.check((2, ((0, 1, 5),)), 4, (0, 0), (1, 0))
        self.check((2, ((0, 1, 5),)), 4, (3, 3), (0, 3))
        self.check((3, ((0, 1, 5), (0, 2, 5))), 4, (0, 0, 1), (2, 0, 1))

    def test_from_settled_ones(self):
        for web in drawn_webs(58) + great_webs(59):
            for k in (2, 3, 4):
                ones = settled(web, k, (0,) * web[0])
                self.check(web, k, ones, ones)

    def test_from_told_ones(self):
        for web in drawn_webs(60) + great_webs(61):
            for k in (2, 3, 4):
                sides = sides_by(web, k)
                self.check(web, k, sides, settled_from(web, k, sides))

    def test_from_drawn_ones(self):
        draw = Draw(62)
        for web in drawn_webs(63, 40, 7, 5) + great_webs(64):
            for k in (2, 3, 4):
                sides = drawn_sides(draw, web[0], k)
                self.check(web, k, sides, settled_from(web, k, sides))

    def test_no_places_no_ties(self):
        for k in (2, 3, 4):
            self.check(NONE, k, (), ())
            self.check((3, ()), k, (k - 1, 0, 1), (k - 1, 0, 1))

    def test_all_ties_of_ten_places(self):
        with self.within_short():
            for k in (2, 3, 4):
                sides = (k - 1,) * 10
                self.check(full_web(10, 99), k, sides, settled_from(full_web(10, 99), k, sides))

    def test_what_is_told_is_a_new_one(self):
        sides = (0, 1, 0, 1)
        told = settled(WEB, 2, sides)
        self.assertEqual(told, sides)
        self.assertIsNot(told, sides)


class OrderOfRefusals(Unchanged):
    def test_no_web_goes_ahead_of_all(self):
        for thing in NO_WEBS:
            for k in (2, 1, None):
                self.refused(NoWeb, sides_by, thing, k)
                for sides in [(), (0, 0), None, [0]]:
                    for function in (parted, are_settled, settled):
                        self.refused(NoWeb, function, thing, k, sides)

    def test_then_no_number(self):
        for k in NO_NUMBERS:
            self.refused(NoNumber, sides_by, WEB, k)
            self.refused(NoNumber, sides_by, NONE, k)
            for function in (parted, are_settled, settled):
                self.refused(NoNumber, function, NONE, k, ())
                for sides in [(0, 0, 0, 0), (0, 1, 0, 1)] + NO_SIDES:
                    self.refused(NoNumber, function, WEB, k, sides)

    def test_then_no_sides(self):
        for function in (parted, are_settled, settled):
            for sides in NO_SIDES:
                for k in (2, 3):
                    self.refused(NoSides, function, WEB, k, sides)
            for k in (2, 3, 4):
                for place in range(4):
                    for side in [k, k + 1, -1] + ODD_THINGS + [()]:
                        self.refused(NoSides, function, WEB, k, put((0, 0, 0, 0), place, side))
                self.refused(NoSides, function, NONE, k, (0,))
                self.refused(NoSides, function, NONE, k, [])


if __name__ == "__main__":
    unittest.main()
