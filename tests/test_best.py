"""The best sides, the greatest apart set and the fewest places that hit all, against going through all."""

import itertools
import unittest

from meanchoice.best import best_sides, fewest_hits, greatest_apart
from meanchoice.errors import NoBook, NoNumber, NoWeb, TooMany
from meanchoice.sides import sides_by
from things import (
    NO_BOOKS, NO_WEBS, ODD_THINGS, Draw, Unchanged, drawn_book, drawn_ties, drawn_web, full_web, great_books,
    great_webs, is_missed,
)

# A ring of five places.
RING = (5, ((0, 1, 3), (0, 4, 2), (1, 2, 5), (2, 3, 4), (3, 4, 7)))

NONE = (0, ())

NO_NUMBERS = ODD_THINGS + [0, 1, 5, 6, -2, -3, "2", "3", (), (2,), [2], {2: 2}]

# For each k how many places there may be, so that there are at most 1024 sides.
MOST_PLACES = {2: 10, 3: 6, 4: 5}


def parted_by(web, sides):
    return sum(weight for i, j, weight in web[1] if sides[i] != sides[j])


def all_sets(n):
    return [one for many in range(n + 1) for one in itertools.combinations(range(n), many)]


def is_apart(web, places):
    return not any({i, j} <= set(places) for i, j, weight in web[1])


def webs(seed, many=40, most_places=7):
    draw = Draw(seed)
    drawn = [drawn_web(draw, most_places, (99, 2)[turn % 2]) for turn in range(many)]
    return drawn + [RING, NONE, (1, ()), (4, ())] + [full_web(n, 5) for n in range(7)]


def books(seed, many=60):
    draw = Draw(seed)
    return [drawn_book(draw, 10, 16) for turn in range(many)] + [(n, ()) for n in range(1, 11)] + [(1, ((0,),))]


class BestSides(Unchanged):
    def check(self, web, k, wanted):
        told = self.told(best_sides, web, k)
        self.assertIs(type(told), tuple)
        number, sides = told
        self.assertIs(type(number), int)
        self.check_numbers(sides)
        self.assertEqual(told, wanted)

    def check_all(self, web, k):
        every = sorted(itertools.product(range(k), repeat=web[0]))
        most = max(parted_by(web, sides) for sides in every)
        self.check(web, k, (most, [sides for sides in every if parted_by(web, sides) == most][0]))

    def test_a_ring(self):
        self.check(RING, 2, (19, (0, 1, 0, 1, 0)))
        self.check(RING, 3, (21, (0, 1, 0, 1, 2)))
        self.check(RING, 4, (21, (0, 1, 0, 1, 2)))

    def test_the_first_of_those(self):
        self.check((2, ((0, 1, 5),)), 2, (5, (0, 1)))
        self.check((2, ((0, 1, 5),)), 4, (5, (0, 1)))
        self.check((3, ((1, 2, 5),)), 3, (5, (0, 0, 1)))
        self.check((3, ((0, 1, 5), (0, 2, 5), (1, 2, 5))), 2, (10, (0, 0, 1)))

    def test_better_than_told_ones(self):
        # Place by place 1 is put beside 0, as it is not tied to it, and then not all ties are parted.
        web = (4, ((0, 2, 5), (1, 3, 5), (2, 3, 9)))
        self.assertEqual(sides_by(web, 2), (0, 0, 1, 0))
        self.check(web, 2, (19, (0, 1, 1, 0)))

    def test_no_places_no_ties(self):
        for k in (2, 3, 4):
            self.check(NONE, k, (0, ()))
            self.check((1, ()), k, (0, (0,)))
            self.check((MOST_PLACES[k], ()), k, (0, (0,) * MOST_PLACES[k]))

    def test_against_all_sides(self):
        for web in webs(361):
            for k in (2, 3, 4):
                if web[0] <= MOST_PLACES[k]:
                    self.check_all(web, k)

    def test_1024_sides_and_more(self):
        draw = Draw(362)
        for k, most_places in MOST_PLACES.items():
            for n in range(most_places, 11):
                for web in ((n, ()), full_web(n), full_web(n, 99), (n, drawn_ties(draw, n))):
                    with self.within_short():
                        if n == most_places:
                            self.told(best_sides, web, k)
                        else:
                            self.refused(TooMany, best_sides, web, k)
                    if n == most_places:
                        self.check_all(web, k)

    def test_ten_places(self):
        for web in great_webs(363):
            with self.within_short():
                self.told(best_sides, web, 2)
            self.check_all(web, 2)
        self.check(full_web(10), 2, (25, (0,) * 5 + (1,) * 5))


class GreatestApart(Unchanged):
    def check(self, web, wanted):
        told = self.told(greatest_apart, web)
        self.check_numbers(told)
        self.assertEqual(told, wanted)

    def check_all(self, web):
        apart = [places for places in all_sets(web[0]) if is_apart(web, places)]
        most = max(map(len, apart))
        self.check(web, min(places for places in apart if len(places) == most))

    def test_small_ones(self):
        self.check(RING, (0, 2))
        self.check((3, ((0, 1, 1), (1, 2, 1))), (0, 2))
        self.check((4, ((0, 1, 9), (0, 2, 9), (0, 3, 9))), (1, 2, 3))
        self.check((4, ((0, 1, 9), (2, 3, 9))), (0, 2))
        self.check((4, ((0, 1, 9), (0, 2, 9), (1, 3, 9), (2, 3, 9))), (0, 3))

    def test_no_places_no_ties_all_ties(self):
        self.check(NONE, ())
        for n in range(1, 11):
            self.check((n, ()), tuple(range(n)))
            self.check(full_web(n, 99), (0,))

    def test_against_all_sets(self):
        for web in webs(364):
            self.check_all(web)

    def test_ten_places(self):
        draw = Draw(365)
        for web in great_webs(366) + [(10, drawn_ties(draw, 10)[::3]) for turn in range(6)]:
            with self.within_short():
                self.told(greatest_apart, web)
            self.check_all(web)


class FewestHits(Unchanged):
    def check(self, book, wanted):
        told = self.told(fewest_hits, book)
        self.check_numbers(told)
        self.assertEqual(told, wanted)

    def check_all(self, book):
        hitting = [places for places in all_sets(book[0]) if not any(is_missed(one, places) for one in book[1])]
        fewest = min(map(len, hitting))
        self.check(book, min(places for places in hitting if len(places) == fewest))

    def test_small_ones(self):
        self.check((3, ((0, 1), (1, 2))), (1,))
        self.check((3, ((0, 1), (0, 2), (1, 2))), (0, 1))
        self.check((4, ((0, 1), (2, 3))), (0, 2))
        self.check((4, ((3,), (1, 2))), (1, 3))
        self.check((4, ((1, 2, 3), (1, 2), (2, 3))), (2,))

    def test_no_sets(self):
        for n in range(1, 11):
            self.check((n, ()), ())

    def test_of_one_place_each_and_of_all_places(self):
        for n in range(1, 11):
            self.check((n, tuple((place,) for place in range(n))), tuple(range(n)))
            self.check((n, tuple((place,) for place in reversed(range(n)))), tuple(range(n)))
            self.check((n, (tuple(range(n)),) * 16), (0,))
            self.check((n, ((n - 1,),)), (n - 1,))

    def test_against_all_sets(self):
        for book in books(367):
            self.check_all(book)

    def test_ten_places(self):
        for book in great_books(368):
            with self.within_short():
                self.told(fewest_hits, book)
            self.check_all(book)


class OrderOfRefusals(Unchanged):
    def test_no_web_and_no_book_go_ahead_of_all(self):
        for thing in NO_WEBS:
            self.refused(NoWeb, greatest_apart, thing)
            for k in (2, 4, 1, 5, None, True):
                self.refused(NoWeb, best_sides, thing, k)
        for thing in NO_BOOKS:
            self.refused(NoBook, fewest_hits, thing)
        # No web, and too many places.
        self.refused(NoWeb, best_sides, (11, ()), 2)
        self.refused(NoWeb, best_sides, (10, ((0, 1, 100),)), 4)

    def test_then_no_number_ahead_of_too_many(self):
        for k in NO_NUMBERS:
            for web in (RING, NONE, (10, ()), full_web(10)):
                self.refused(NoNumber, best_sides, web, k)

    def test_then_too_many(self):
        for k, n in ((3, 7), (3, 10), (4, 6), (4, 10)):
            self.refused(TooMany, best_sides, (n, ()), k)


if __name__ == "__main__":
    unittest.main()
