"""Ins of a web: their means against all ins, the ins told, and what is pruned of ins."""

import itertools
import unittest
from fractions import Fraction

from meanchoice.errors import NoIns, NoNumber, NoWeb
from meanchoice.ins import ins_by, mean_left, pruned
from things import (
    BIG, NO_WEBS, ODD_THINGS, OTHER_THINGS, Draw, Unchanged, drawn_web, full_web, great_webs, pair,
)

# A ring of four places and one tie across it, of unlike weights.
WEB = (4, ((0, 1, 1), (0, 3, 99), (1, 2, 5), (1, 3, 1), (2, 3, 7)))

NONE = (0, ())

NO_NUMBERS = ODD_THINGS + [0, 1, 10, 11, -2, -3, "2", "3", (), (2,), [2], {2: 2}]

# None of these is ins of WEB, begun or whole.
NO_INS = OTHER_THINGS + [
    (2,), (-1,), (1, 2), (0, 0, 0, 2), (0, 0, 0, 0, 0), (1, 1, 1, 1, 1), [1], [0, 0, 0, 0], (0, True), (False,),
    (1, None), (1, "1"), (1, [1]), (1, (1,)), (1, {}), (BIG, 1), (1, -BIG), "1111", {0: 1}, ((1, 1, 1, 1),),
    (True, 1, 1, 1), (1, 1, 1, False),
]


def all_ins(n):
    return list(itertools.product((1, 0), repeat=n))


def begun_ins(n):
    return sorted({ins[:many] for ins in all_ins(n) for many in range(n + 1)})


def in_less_ties(web, ins):
    return sum(ins) - ties_within(web, ins)


def ties_within(web, ins):
    return len([tie for tie in web[1] if ins[tie[0]] and ins[tie[1]]])


def mean_by_all(web, k, begun):
    """By going through all ins that begin so, each as often as it comes: a place is in one time of k."""
    total = many = 0
    for ins in all_ins(web[0]):
        if ins[:len(begun)] == begun:
            often = 1
            for one in ins[len(begun):]:
                often *= 1 if one else k - 1
            total += often * in_less_ties(web, ins)
            many += often
    return Fraction(total, many)


def ins_of_all(web, k):
    """The ins told, by going through all ins at each step."""
    begun = ()
    for place in range(web[0]):
        begun += (1 if mean_by_all(web, k, begun + (1,)) >= mean_by_all(web, k, begun + (0,)) else 0,)
    return begun


def pruned_by(web, ins):
    left = {place for place, one in enumerate(ins) if one}
    for i, j, weight in web[1]:
        if {i, j} <= left:
            left.remove(j)
    return tuple(sorted(left))


def small_webs(seed, many=20, most_places=5):
    draw = Draw(seed)
    webs = [drawn_web(draw, most_places) for turn in range(many)]
    return webs + [WEB, NONE, (1, ()), (4, ())] + [full_web(n) for n in range(5)]


class MeanLeft(Unchanged):
    def check(self, web, k, begun, wanted):
        told = self.told(mean_left, web, k, begun)
        self.check_fraction(told)
        self.assertEqual(told, wanted)

    def test_a_web(self):
        self.check(WEB, 2, (), (3, 4))
        self.check(WEB, 9, (), (31, 81))
        self.check(WEB, 2, (1,), (3, 4))
        self.check(WEB, 2, (0,), (3, 4))
        self.check(WEB, 2, (1, 0), (5, 4))
        self.check(WEB, 2, (1, 1, 1, 1), (-1, 1))
        self.check(WEB, 2, (1, 0, 1, 0), (2, 1))

    def test_weights_of_ties_do_not_matter(self):
        for weight in (1, 99):
            self.check((2, ((0, 1, weight),)), 2, (), (3, 4))
            self.check((2, ((0, 1, weight),)), 3, (1,), (1, 1))
            self.check((2, ((0, 1, weight),)), 3, (1, 1), (1, 1))

    def test_below_nought(self):
        self.check(full_web(10), 2, (), (-25, 4))
        self.check(full_web(10), 2, (1,) * 10, (-35, 1))

    def test_against_all_ins(self):
        for web in small_webs(321):
            for k in (2, 3, 5, 9):
                for begun in begun_ins(web[0]):
                    self.check(web, k, begun, pair(mean_by_all(web, k, begun)))

    def test_each_k(self):
        for k in range(2, 10):
            for begun in ((), (1,), (0, 1), (1, 1, 0), (0, 0, 0, 0)):
                self.check(WEB, k, begun, pair(mean_by_all(WEB, k, begun)))

    def test_of_nothing_begun(self):
        for web in small_webs(322) + great_webs(323):
            for k in range(2, 10):
                self.check(web, k, (), pair(Fraction(web[0], k) - Fraction(len(web[1]), k * k)))

    def test_of_all_begun(self):
        draw = Draw(324)
        for web in small_webs(325) + great_webs(326):
            for k in (2, 9):
                ins = tuple(draw.below(2) for place in range(web[0]))
                self.check(web, k, ins, (in_less_ties(web, ins), 1))

    def test_it_is_the_mean_of_those_one_place_longer(self):
        draw = Draw(327)
        for web in great_webs(328):
            for k in (2, 4, 9):
                ins = tuple(draw.below(2) for place in range(10))
                for many in range(10):
                    inside, outside = [Fraction(*mean_left(web, k, ins[:many] + (one,))) for one in (1, 0)]
                    self.check(web, k, ins[:many], pair(inside / k + outside * (k - 1) / k))

    def test_no_places_no_ties(self):
        for k in range(2, 10):
            self.check(NONE, k, (), (0, 1))
            self.check((10, ()), k, (), pair(Fraction(10, k)))
            self.check((10, ()), k, (1, 0, 1), pair(2 + Fraction(7, k)))

    def test_ten_places(self):
        for web in great_webs(329):
            for begun in ((), (1, 0, 0)):
                with self.within_short():
                    told = mean_left(web, 3, begun)
                self.assertEqual(told, pair(mean_by_all(web, 3, begun)))

    def test_each_is_a_new_one(self):
        self.assertIsNot(mean_left(NONE, 2, ()), mean_left(NONE, 2, ()))


class InsBy(Unchanged):
    def check(self, web, k, wanted):
        told = self.told(ins_by, web, k)
        self.check_numbers(told)
        self.assertEqual(told, wanted)
        means = [Fraction(*mean_left(web, k, told[:many])) for many in range(len(told) + 1)]
        self.assertEqual(means, sorted(means))
        self.assertGreaterEqual(in_less_ties(web, told), means[0])

    def test_ties(self):
        # Two ties at k 2 take just what the place brings, and so does one tie to a place that is in.
        self.check((3, ((0, 1, 5), (0, 2, 5))), 2, (1, 1, 1))
        self.check((2, ((0, 1, 5),)), 2, (1, 1))
        self.check((3, ((0, 1, 5), (0, 2, 5), (1, 2, 5))), 3, (1, 0, 1))
        self.check((4, ((0, 1, 5), (0, 2, 5), (0, 3, 5))), 3, (1, 1, 1, 1))

    def test_others(self):
        self.check((4, ((0, 1, 5), (0, 2, 5), (0, 3, 5))), 2, (0, 1, 1, 1))
        self.check(WEB, 2, ins_of_all(WEB, 2))
        self.check(WEB, 9, ins_of_all(WEB, 9))
        self.check(full_web(10), 2, (0,) * 7 + (1, 0, 1))
        self.check(full_web(10), 9, (1,) + (0,) * 8 + (1,))

    def test_no_places_no_ties(self):
        for k in range(2, 10):
            self.check(NONE, k, ())
            for n in (1, 2, 10):
                self.check((n, ()), k, (1,) * n)

    def test_against_all_ins(self):
        seen = set()
        for web in small_webs(330, 40):
            for k in (2, 3, 9):
                wanted = ins_of_all(web, k)
                seen.update(wanted)
                self.check(web, k, wanted)
        self.assertEqual(seen, {0, 1})

    def test_ten_places(self):
        for web in great_webs(331):
            for k in (2, 5, 9):
                with self.within_short():
                    told = ins_by(web, k)
                wanted = ()
                for place in range(10):
                    inside, outside = [Fraction(*mean_left(web, k, wanted + (one,))) for one in (1, 0)]
                    wanted += (1 if inside >= outside else 0,)
                self.assertEqual(told, wanted)
                self.check(web, k, wanted)


class Pruned(Unchanged):
    def check(self, web, ins, wanted):
        told = self.told(pruned, web, ins)
        self.check_numbers(told)
        self.assertEqual(told, wanted)
        self.assertEqual(list(told), sorted(set(told)))
        self.assertEqual([tie for tie in web[1] if tie[0] in told and tie[1] in told], [])
        self.assertTrue(all(ins[place] for place in told))
        self.assertGreaterEqual(len(told), in_less_ties(web, ins))

    def test_all_in(self):
        self.check(WEB, (1, 1, 1, 1), (0, 2))
        self.check((4, ()), (1, 1, 1, 1), (0, 1, 2, 3))
        for n in range(1, 11):
            self.check(full_web(n), (1,) * n, (0,))

    def test_none_in(self):
        for web in small_webs(332) + great_webs(333):
            self.check(web, (0,) * web[0], ())

    def test_what_went_takes_none_along(self):
        row = (4, ((0, 1, 1), (1, 2, 1), (2, 3, 1)))
        self.check(row, (1, 1, 1, 1), (0, 2))
        self.check(row, (0, 1, 1, 1), (1, 3))
        self.check(row, (1, 0, 1, 1), (0, 2))
        self.check(row, (1, 0, 0, 1), (0, 3))

    def test_ties_in_order(self):
        # The tie of 1 and 2 comes behind that of 0 and 3, and ahead of that of 2 and 3.
        self.check((4, ((0, 3, 1), (1, 2, 1), (2, 3, 1))), (1, 1, 1, 1), (0, 1))
        self.check((4, ((0, 3, 1), (1, 2, 1), (2, 3, 1))), (0, 1, 1, 1), (1, 3))

    def test_no_places(self):
        self.check(NONE, (), ())

    def test_all_ins(self):
        for web in small_webs(334):
            for ins in all_ins(web[0]):
                self.check(web, ins, pruned_by(web, ins))

    def test_drawn_ins_of_ten_places(self):
        draw = Draw(335)
        for web in great_webs(336):
            for turn in range(30):
                ins = tuple(draw.below(2) for place in range(10))
                self.check(web, ins, pruned_by(web, ins))

    def test_of_the_told_ins(self):
        for web in small_webs(337) + great_webs(338):
            for k in range(2, 10):
                told = pruned(web, ins_by(web, k))
                self.check(web, ins_by(web, k), told)
                self.assertGreaterEqual(len(told), Fraction(*mean_left(web, k, ())))


class OrderOfRefusals(Unchanged):
    def test_no_web_goes_ahead_of_all(self):
        for thing in NO_WEBS:
            for k in (2, 1, 10, None, True):
                self.refused(NoWeb, ins_by, thing, k)
                for ins in [(), (0, 0), None, [0], (2,)]:
                    self.refused(NoWeb, mean_left, thing, k, ins)
            for ins in [(), (0, 0), None, [0], (2,)]:
                self.refused(NoWeb, pruned, thing, ins)

    def test_then_no_number(self):
        for k in NO_NUMBERS:
            self.refused(NoNumber, ins_by, WEB, k)
            self.refused(NoNumber, ins_by, NONE, k)
            for ins in [(), (1, 0, 1, 0)] + NO_INS:
                self.refused(NoNumber, mean_left, WEB, k, ins)
            self.refused(NoNumber, mean_left, NONE, k, ())

    def test_then_no_ins(self):
        for ins in NO_INS:
            for k in (2, 9):
                self.refused(NoIns, mean_left, WEB, k, ins)
            self.refused(NoIns, pruned, WEB, ins)
        for thing in [(0,), (1,), [], None]:
            self.refused(NoIns, mean_left, NONE, 2, thing)
            self.refused(NoIns, pruned, NONE, thing)

    def test_begun_ins_are_not_pruned(self):
        for many in range(4):
            for one in (0, 1):
                self.refused(NoIns, pruned, WEB, (one,) * many)
        self.assertEqual(pruned(WEB, (0, 1, 0, 0)), (1,))

    def test_odd_things_at_each_place(self):
        for place in range(4):
            for odd in ODD_THINGS + [2, 3, -2, (), (1,)]:
                ins = tuple(odd if at == place else 1 for at in range(4))
                self.refused(NoIns, pruned, WEB, ins)
                for begun in (ins, ins[:place + 1]):
                    self.refused(NoIns, mean_left, WEB, 2, begun)


if __name__ == "__main__":
    unittest.main()
