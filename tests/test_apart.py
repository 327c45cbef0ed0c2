"""Sets apart by orders: the places chosen, the means of begun orders, and the order that is told."""

import itertools
import unittest
from fractions import Fraction

from meanchoice.apart import chosen_by, mean_of, order_by
from meanchoice.errors import NoOrder, NoWeb
from meanchoice.fractions import is_less
from things import (
    BIG, NO_WEBS, ODD_THINGS, OTHER_THINGS, Draw, Unchanged, drawn_ties, drawn_web, full_web, great_webs, mean_of_all,
    pair,
)

# A star around place 1, and place 4 apart.
WEB = (5, ((0, 1, 9), (1, 2, 1), (1, 3, 5)))

# A row of places, each tied to the next one.
ROW = (4, ((0, 1, 1), (1, 2, 1), (2, 3, 1)))

NONE = (0, ())

# None of these is an order of ROW, begun or whole.
NOT_BEGUN = OTHER_THINGS + [
    (4,), (-1,), (0, 0), (0, 1, 0), (1, 2, 3, 1), (0, 1, 2, 3, 0), (0, 1, 2, 3, 4), (0, 1, 2, 4), (0, 1, 2, -1), [0],
    [0, 1, 2, 3], (0, True), (False,), (0, None), (0, "1"), (0, [1]), (0, (1,)), (0, {}), (BIG, 0), "0123", {0: 1},
    ((0, 1, 2, 3),), (3, 2, 1, False), (1, 1, 1, 1), (-BIG,), (0, 1, 2, "3"),
]


def tied_of(web):
    """For each place the set of those tied to it."""
    told = [set() for place in range(web[0])]
    for i, j, weight in web[1]:
        told[i].add(j)
        told[j].add(i)
    return told


def chosen_walk(web, order):
    """The places chosen, by going through the order and looking at what came ahead."""
    told, tied = [], tied_of(web)
    for at, place in enumerate(order):
        if not tied[place] & set(order[:at]):
            told.append(place)
    return tuple(sorted(told))


def all_orders(web):
    return list(itertools.permutations(range(web[0])))


def begun_orders(web):
    return sorted({order[:many] for order in all_orders(web) for many in range(len(order) + 1)})


def sum_of_chances(web):
    return sum((Fraction(1, 1 + len(tied)) for tied in tied_of(web)), Fraction(0))


def small_webs(seed, many=25, most_places=5):
    draw = Draw(seed)
    webs = [drawn_web(draw, most_places) for turn in range(many)]
    return webs + [WEB, ROW, NONE, (1, ()), (4, ())] + [full_web(n) for n in range(6)]


class ChosenBy(Unchanged):
    def check(self, web, order, wanted):
        told = self.told(chosen_by, web, order)
        self.check_numbers(told)
        self.assertEqual(told, wanted)

    def test_a_star(self):
        self.check(WEB, (0, 1, 2, 3, 4), (0, 4))
        self.check(WEB, (1, 0, 2, 3, 4), (1, 4))
        self.check(WEB, (0, 2, 3, 1, 4), (0, 2, 3, 4))
        self.check(WEB, (4, 3, 2, 1, 0), (2, 3, 4))
        self.check(WEB, (4, 3, 1, 2, 0), (3, 4))

    def test_ahead_of_those_tied_chosen_or_not(self):
        # Place 2 comes behind place 1, so it isn't chosen, though place 1 isn't either.
        self.check(ROW, (0, 1, 2, 3), (0,))
        self.check(ROW, (3, 2, 1, 0), (3,))
        self.check(ROW, (0, 3, 1, 2), (0, 3))
        self.check(ROW, (3, 1, 0, 2), (1, 3))

    def test_no_places_no_ties_all_ties(self):
        self.check(NONE, (), ())
        self.check((1, ()), (0,), (0,))
        self.check((3, ()), (2, 0, 1), (0, 1, 2))
        self.check((10, ()), tuple(range(9, -1, -1)), tuple(range(10)))
        self.check(full_web(10), (7, 0, 1, 2, 3, 4, 5, 6, 8, 9), (7,))

    def test_all_orders(self):
        for web in small_webs(71, 15):
            for order in all_orders(web):
                self.check(web, order, chosen_walk(web, order))

    def test_drawn_orders(self):
        draw = Draw(72)
        for web in great_webs(73) * 5:
            order = draw.shuffled(range(10))
            self.check(web, order, chosen_walk(web, order))

    def test_rising_and_apart(self):
        draw = Draw(74)
        for web in great_webs(75) * 5:
            told = chosen_by(web, draw.shuffled(range(10)))
            self.assertEqual(told, tuple(sorted(set(told))))
            self.assertGreaterEqual(len(told), 1)
            for i, j, weight in web[1]:
                self.assertFalse(i in told and j in told)


class MeanOf(Unchanged):
    def check(self, web, begun, wanted):
        told = self.told(mean_of, web, begun)
        self.check_fraction(told)
        self.assertEqual(told, wanted)

    def test_a_star(self):
        self.check(WEB, (), (11, 4))
        self.check(WEB, (1,), (2, 1))
        self.check(WEB, (0,), (3, 1))
        self.check(WEB, (4,), (11, 4))
        self.check(WEB, (3, 1), (2, 1))

    def test_a_row(self):
        self.check(ROW, (), (5, 3))
        # 0 and 2 are behind 1 and never chosen; 3 is in one of two.
        self.check(ROW, (1,), (3, 2))
        self.check(ROW, (0,), (11, 6))
        self.check(ROW, (0, 1), (3, 2))
        self.check(ROW, (1, 2), (1, 1))

    def test_against_all_orders(self):
        for web in small_webs(76):
            for begun in begun_orders(web):
                ends = [order for order in all_orders(web) if order[:len(begun)] == begun]
                self.check(web, begun, mean_of_all(len(chosen_walk(web, order)) for order in ends))

    def test_of_six_places(self):
        draw = Draw(77)
        for turn in range(3):
            web = (6, drawn_ties(draw, 6))
            order = draw.shuffled(range(6))
            for many in range(7):
                ends = [one for one in all_orders(web) if one[:many] == order[:many]]
                self.check(web, order[:many], mean_of_all(len(chosen_walk(web, one)) for one in ends))

    def test_of_nothing_begun(self):
        for web in small_webs(78) + great_webs(79):
            self.check(web, (), pair(sum_of_chances(web)))

    def test_of_an_order_it_is_how_many_are_chosen(self):
        draw = Draw(80)
        for web in small_webs(81) + great_webs(82):
            order = draw.shuffled(range(web[0]))
            self.check(web, order, (len(chosen_by(web, order)), 1))

    def test_it_is_the_mean_of_those_one_place_longer(self):
        draw = Draw(83)
        for web in great_webs(84):
            order = draw.shuffled(range(10))
            for many in range(10):
                begun = order[:many]
                longer = [Fraction(*mean_of(web, begun + (place,))) for place in range(10) if place not in begun]
                self.check(web, begun, pair(sum(longer) / len(longer)))

    def test_no_places_no_ties_all_ties(self):
        self.check(NONE, (), (0, 1))
        self.check((10, ()), (), (10, 1))
        self.check((10, ()), (3, 5), (10, 1))
        self.check(full_web(10), (), (1, 1))
        self.check(full_web(10), (4, 2), (1, 1))

    def test_the_weights_do_not_matter(self):
        for weight in (1, 99):
            self.check((3, ((0, 1, weight), (1, 2, 5))), (), (4, 3))

    def test_ten_places(self):
        with self.within_short():
            for web in great_webs(85):
                self.check(web, (), pair(sum_of_chances(web)))
                mean_of(web, (3, 1, 4))

    def test_each_is_a_new_one(self):
        self.assertIsNot(mean_of(NONE, ()), mean_of(NONE, ()))


class OrderBy(Unchanged):
    def check(self, web, wanted):
        told = self.told(order_by, web)
        self.check_numbers(told)
        self.assertEqual(told, wanted)
        self.assertEqual(sorted(told), list(range(web[0])))
        means = [mean_of(web, told[:many]) for many in range(web[0] + 1)]
        for ahead, later in zip(means, means[1:]):
            self.assertIs(is_less(later, ahead), False)
        many = len(chosen_by(web, told))
        self.assertGreaterEqual(many, sum_of_chances(web))
        if web[0] > 0:
            ties_at_a_place = Fraction(2 * len(web[1]), web[0])
            self.assertGreaterEqual(many, web[0] / (1 + ties_at_a_place))

    def order_of(self, web):
        """The order of the least places of greatest mean, by the means told."""
        order = ()
        while len(order) < web[0]:
            left = [place for place in range(web[0]) if place not in order]
            means = [Fraction(*mean_of(web, order + (place,))) for place in left]
            order += (left[means.index(max(means))],)
        return order

    def order_of_all(self, web):
        """The same, by going through all orders."""
        order = ()
        while len(order) < web[0]:
            left = [place for place in range(web[0]) if place not in order]
            means = []
            for place in left:
                ends = [one for one in all_orders(web) if one[:len(order) + 1] == order + (place,)]
                means.append(Fraction(sum(len(chosen_walk(web, one)) for one in ends), len(ends)))
            order += (left[means.index(max(means))],)
        return order

    def test_a_star(self):
        # Once 0, 2 and 3 stand, the mean is 4 whatever comes.
        self.check(WEB, (0, 2, 3, 1, 4))

    def test_ties_between_places(self):
        self.check((4, ()), (0, 1, 2, 3))
        self.check(full_web(4), (0, 1, 2, 3))
        # 1 and 2 are alike, and better than 0, which is tied to both.
        self.check((3, ((0, 1, 5), (0, 2, 5))), (1, 2, 0))

    def test_no_places(self):
        self.check(NONE, ())
        self.check((1, ()), (0,))

    def test_against_all_orders(self):
        for web in small_webs(86, 20):
            self.check(web, self.order_of_all(web))

    def test_ten_places(self):
        for web in great_webs(87):
            with self.within_short():
                told = order_by(web)
            self.check(web, self.order_of(web))
            self.assertEqual(len(told), 10)


class OrderOfRefusals(Unchanged):
    def test_no_web_goes_ahead_of_all(self):
        for thing in NO_WEBS:
            self.refused(NoWeb, order_by, thing)
            for order in [(), (0, 1), None, [0], (-1,)]:
                self.refused(NoWeb, chosen_by, thing, order)
                self.refused(NoWeb, mean_of, thing, order)

    def test_then_no_order(self):
        for thing in NOT_BEGUN:
            self.refused(NoOrder, chosen_by, ROW, thing)
            self.refused(NoOrder, mean_of, ROW, thing)
        for thing in [(0,), []]:
            self.refused(NoOrder, chosen_by, NONE, thing)
            self.refused(NoOrder, mean_of, NONE, thing)

    def test_a_begun_order_is_no_order(self):
        for order in [(), (0,), (3, 2, 1)]:
            self.refused(NoOrder, chosen_by, ROW, order)

    def test_odd_things_at_each_place(self):
        for place in range(4):
            for odd in ODD_THINGS + [4, 5, (), (1,)]:
                order = tuple(odd if at == place else at for at in range(4))
                self.refused(NoOrder, chosen_by, ROW, order)
                self.refused(NoOrder, mean_of, ROW, order)
                self.refused(NoOrder, mean_of, ROW, order[:place + 1])


if __name__ == "__main__":
    unittest.main()
