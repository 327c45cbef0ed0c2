"""A Chooser against one that goes through all choosings: wishes, places, means, what is finished, and refusals."""

import copy
import itertools
import unittest
from fractions import Fraction

from meanchoice.chooser import Chooser
from meanchoice.chosen import chosen
from meanchoice.errors import NoNumber, NoPlace, NoWay, NoWays, NoWish, TooMany
from meanchoice.means import mean
from meanchoice.sheets import is_choosing, is_sheet, worth
from things import (
    BIG, NO_WAYS, ODD_THINGS, OTHER_THINGS, SHEET, Draw, Unchanged, all_choosings, at_spot, drawn_sheet, drawn_wish,
    great_sheet, mean_of_all, spots, with_spot,
)

WAYS = SHEET[0]

# Noughts and ones stand at many spots, so truths would pass there for numbers.
WISH = ("all", 1, ((0, (0, 1)), (1, (0,)), (2, ())))

# None of these is a wish for WAYS.
NO_WISHES = OTHER_THINGS + [
    (), ("all",), ("all", 1), ("all", 1, (), ()), ["all", 1, ()], ("all", 1, []), ("any", 1, ()), ("All", 1, ()),
    ("all", -1, ()), ("all", 100, ()), ("all", True, ()), ("some", 1, ((3, ()),)), ("some", 1, ((-1, ()),)),
    ("some", 1, ((0, (2,)),)), ("some", 1, ((1, (1,)),)), ("some", 1, ((2, (3,)),)), ("some", 1, ((2, (1, 0)),)),
    ("some", 1, ((2, (1, 1)),)), ("some", 1, ((1, ()), (0, ()))), ("some", 1, ((1, ()), (1, ()))), ("some", 1, (0, 1)),
    ("some", 1, ((0, [1]),)), ("some", 1, ([0, (1,)],)), ("some", 1, ((0,),)), ("some", 1, ((0, 1),)), (1, "all", ()),
    ("some", 1, ((True, ()),)), ("some", 1, ((0, (True,)),)), ("some", 1, None), SHEET, WAYS, (None, 1, ()),
    ([], 1, ()), ({}, 1, ()), ("all", None, ()), ("all", "1", ()), ("all", BIG, ()), ("all", 1, ((BIG, ()),)),
]

SHORT_WISH = ("all", 5, ((0, (1,)),))

# No number, place or way of anything.
NOTHING_AT_ALL = ODD_THINGS + [(), (0,), (1,), ((),), "2", -2, -3]


def drawn_ways(draw, most_places=4):
    return tuple(draw.within(1, 4) for place in range(draw.within(0, most_places)))


def finished_of(sheet, worths, picks):
    """What finish tells, by going through all choosings."""
    picks = dict(picks)
    for place, many in enumerate(sheet[0]):
        if place not in picks:
            means = [mean_of_agreeing(worths, {**picks, place: way}) for way in range(many)]
            picks[place] = means.index(max(means))
    return tuple(picks[place] for place in range(len(sheet[0])))


def mean_of_agreeing(worths, picks):
    """The mean of the worths of all choosings that agree with the picks."""
    ends = [told for one, told in worths.items() if all(one[place] == way for place, way in picks.items())]
    return Fraction(*mean_of_all(ends))


def told_of(chooser):
    """All that a Chooser tells."""
    picks = chooser.chosen()
    free = [place for place in range(len(chooser.sheet()[0])) if place not in picks]
    means = {place: chooser.means(place) for place in free}
    return copy.deepcopy((chooser.sheet(), picks, chooser.mean(), means, chooser.finish()))


class Both(Unchanged):
    """Begins a Chooser and keeps by its side what was put and chosen."""

    def begin(self, ways):
        self.ways, self.standing, self.picks, self.numbers = ways, {}, {}, 0
        self.chooser = self.told(Chooser, ways)

    def put(self, wish):
        told = self.told(self.chooser.put, wish)
        self.assertIs(type(told), int)
        self.assertEqual(told, self.numbers)
        self.standing[self.numbers] = wish
        self.numbers += 1

    def drop(self, number):
        self.assertIsNone(self.chooser.drop(number))
        del self.standing[number]

    def choose(self, place, way):
        self.assertIsNone(self.chooser.choose(place, way))
        self.picks[place] = way

    def let(self, place):
        self.assertIsNone(self.chooser.let(place))
        del self.picks[place]

    def check(self):
        """All that is told, against all choosings."""
        sheet = (self.ways, tuple(self.standing[number] for number in sorted(self.standing)))
        told = self.chooser.sheet()
        self.assertIs(is_sheet(told), True)
        self.assertEqual(told, sheet)
        self.assertIs(type(self.chooser.chosen()), dict)
        self.assertEqual(self.chooser.chosen(), self.picks)
        worths = {one: worth(sheet, one) for one in all_choosings(sheet)}
        self.check_mean(self.chooser.mean(), worths, self.picks)
        for place, many in enumerate(self.ways):
            if place not in self.picks:
                means = self.chooser.means(place)
                self.assertIs(type(means), list)
                self.assertEqual(len(means), many)
                for way, one in enumerate(means):
                    self.check_mean(one, worths, {**self.picks, place: way})
        finished = self.chooser.finish()
        self.check_numbers(finished)
        self.assertIs(is_choosing(sheet, finished), True)
        self.assertEqual(finished, finished_of(sheet, worths, self.picks))
        self.assertEqual(self.chooser.chosen(), self.picks)

    def check_mean(self, told, worths, picks):
        self.check_fraction(told)
        self.assertEqual(Fraction(*told), mean_of_agreeing(worths, picks))

    def refused_and_as_before(self, refusal, function, *things):
        before = told_of(self.chooser)
        self.refused(refusal, function, *things)
        self.assertEqual(told_of(self.chooser), before)


class Wishes(Both):
    def test_numbers_go_on_behind_dropped_ones(self):
        self.begin(WAYS)
        for wish in SHEET[1]:
            self.put(wish)
        self.drop(2)
        self.put(WISH)
        self.assertEqual(sorted(self.standing), [0, 1, 3])
        self.drop(0)
        self.drop(3)
        self.drop(1)
        self.check()
        self.put(WISH)
        self.assertEqual(sorted(self.standing), [4])
        self.check()

    def test_the_sheet_of_those_that_stand(self):
        self.begin(WAYS)
        self.check()
        for wish in SHEET[1]:
            self.put(wish)
            self.check()
        self.assertEqual(self.chooser.sheet(), SHEET)
        self.drop(1)
        self.assertEqual(self.chooser.sheet(), (WAYS, (SHEET[1][0], SHEET[1][2])))
        self.put(SHEET[1][1])
        self.assertEqual(self.chooser.sheet(), (WAYS, (SHEET[1][0], SHEET[1][2], SHEET[1][1])))

    def test_like_ones(self):
        self.begin(WAYS)
        for turn in range(4):
            self.put(WISH)
        self.drop(1)
        self.assertEqual(self.chooser.sheet(), (WAYS, (WISH,) * 3))
        self.check()

    def test_a_hundred_and_more(self):
        draw = Draw(201)
        self.begin((2, 3, 2))
        while self.numbers < 150:
            if len(self.standing) == 16 or (self.standing and draw.below(3) == 0):
                numbers = sorted(self.standing)
                self.drop(numbers[draw.below(len(numbers))])
            else:
                self.put(drawn_wish(draw, self.ways))
            if self.numbers % 10 == 0:
                self.check()
        self.check()

    def test_sixteen_again_and_again(self):
        self.begin(WAYS)
        for turn in range(16):
            self.put(WISH)
        for number in range(20):
            self.refused_and_as_before(TooMany, self.chooser.put, WISH)
            self.drop(number)
            self.put(("some", number, ((0, (1,)),)))
        self.check()

    def test_odd_but_good_ones(self):
        self.begin(WAYS)
        for wish in (("all", 0, ()), ("some", 99, ()), ("all", 99, ((0, ()),)), ("some", 5, ((2, (0, 1, 2)),)), WISH):
            self.put(wish)
            self.check()

    def test_no_places(self):
        self.begin(())
        self.check()
        self.put(("all", 7, ()))
        self.put(("some", 9, ()))
        self.check()
        self.assertEqual(self.chooser.mean(), (7, 1))
        self.assertEqual(self.chooser.finish(), ())
        self.assertEqual(self.chooser.chosen(), {})
        self.drop(0)
        self.assertEqual(self.chooser.mean(), (0, 1))


class Places(Both):
    def begin_with(self, sheet):
        self.begin(sheet[0])
        for wish in sheet[1]:
            self.put(wish)

    def test_a_sheet(self):
        self.begin_with(SHEET)
        self.assertEqual(self.chooser.mean(), (47, 1))
        self.assertEqual(self.chooser.means(0), [(50, 1), (44, 1)])
        self.assertEqual(self.chooser.means(2), [(91, 2), (45, 1), (101, 2)])
        self.choose(2, 2)
        self.assertEqual(self.chooser.mean(), (101, 2))
        self.assertEqual(self.chooser.means(0), [(50, 1), (51, 1)])
        self.assertEqual(self.chooser.means(1), [(101, 2)])
        self.assertEqual(self.chooser.finish(), (1, 0, 2))
        self.choose(0, 0)
        self.assertEqual(self.chooser.finish(), (0, 0, 2))
        self.assertEqual(self.chooser.chosen(), {0: 0, 2: 2})
        self.let(2)
        self.assertEqual(self.chooser.chosen(), {0: 0})
        self.assertEqual(self.chooser.finish(), (0, 0, 0))

    def test_in_each_order_and_let_go_again(self):
        for order in itertools.permutations(range(3)):
            for letting in itertools.permutations(range(3)):
                self.begin_with(SHEET)
                for place in order:
                    self.choose(place, WAYS[place] - 1)
                self.check()
                for place in letting:
                    self.let(place)
                    self.check()

    def test_all_picks_of_a_sheet(self):
        for picks in itertools.product((None, 0, 1), (None, 0), (None, 0, 1, 2)):
            self.begin_with(SHEET)
            for place, way in enumerate(picks):
                if way is not None:
                    self.choose(place, way)
            self.check()
            if None not in picks:
                self.assertEqual(self.chooser.finish(), picks)
                self.assertEqual(self.chooser.mean(), (worth(SHEET, picks), 1))

    def test_chosen_anew_in_another_way(self):
        self.begin_with(SHEET)
        for way in (0, 2, 1, 2):
            self.choose(2, way)
            self.check()
            self.let(2)
        self.check()

    def test_ties_between_ways(self):
        self.begin((2, 3, 4))
        self.assertEqual(self.chooser.finish(), (0, 0, 0))
        self.choose(1, 2)
        self.assertEqual(self.chooser.finish(), (0, 2, 0))
        self.put(("all", 5, ((2, (1, 3)),)))
        self.put(("all", 4, ((2, (2,)),)))
        self.assertEqual(self.chooser.finish(), (0, 2, 1))
        self.put(("some", 3, ((0, (1,)), (1, (2,)))))
        self.assertEqual(self.chooser.finish(), (0, 2, 1))
        self.let(1)
        self.assertEqual(self.chooser.finish(), (1, 0, 1))

    def test_the_least_place_goes_first(self):
        # By place 0 first it is (1, 0), though (0, 0) is worth more and place 1 first would come to it.
        self.begin((2, 2))
        self.put(("all", 9, ((0, (0,)), (1, (0,)))))
        self.put(("all", 5, ((0, (1,)),)))
        self.assertEqual(self.chooser.finish(), (1, 0))
        self.choose(1, 0)
        self.assertEqual(self.chooser.finish(), (0, 0))

    def test_finish_changes_nothing(self):
        draw = Draw(202)
        for turn in range(20):
            self.begin_with(drawn_sheet(draw))
            for place in draw.some(len(self.ways)):
                self.choose(place, draw.below(self.ways[place]))
            before = told_of(self.chooser)
            for again in range(3):
                self.assertEqual(self.chooser.finish(), before[4])
                self.assertEqual(told_of(self.chooser), before)

    def test_finished_from_nothing_chosen_is_as_chosen_tells(self):
        draw = Draw(203)
        for sheet in [SHEET, great_sheet(204)] + [drawn_sheet(draw) for turn in range(20)]:
            self.begin_with(sheet)
            self.assertEqual(self.chooser.finish(), chosen(sheet))
            for place in range(draw.within(0, len(sheet[0]))):
                self.choose(place, draw.below(sheet[0][place]))
                begun = tuple(self.picks[at] for at in range(place + 1))
                self.assertEqual(self.chooser.mean(), mean(sheet, begun))

    def test_what_is_finished_is_worth_the_mean_at_least(self):
        draw = Draw(205)
        for turn in range(40):
            self.begin_with(drawn_sheet(draw))
            for place in draw.some(len(self.ways)):
                self.choose(place, draw.below(self.ways[place]))
            told = worth(self.chooser.sheet(), self.chooser.finish())
            self.assertGreaterEqual(told, Fraction(*self.chooser.mean()))

    def test_ten_places_of_four_ways(self):
        sheet = great_sheet(206)
        self.begin_with(sheet)
        with self.within_short():
            for place in (7, 2, 9):
                self.choose(place, 3)
                before = Fraction(*self.chooser.mean())
                for free in (0, 1, 3, 4, 5, 6, 8):
                    means = [Fraction(*one) for one in self.chooser.means(free)]
                    self.assertEqual(sum(means) / 4, before)
            finished = self.chooser.finish()
        self.assertEqual([finished[place] for place in (7, 2, 9)], [3, 3, 3])
        # One by one, each the first way whose mean is greatest.
        for place in (0, 1, 3, 4, 5, 6, 8):
            means = [Fraction(*one) for one in self.chooser.means(place)]
            self.choose(place, means.index(max(means)))
        self.assertEqual(self.chooser.finish(), finished)
        self.assertEqual(self.chooser.mean(), (worth(sheet, finished), 1))

    def test_the_mean_of_ten_places_by_those_agreeing(self):
        sheet = great_sheet(207)
        self.begin_with(sheet)
        for place in (9, 0, 4, 6, 1, 8):
            self.choose(place, place % 4)
        free = (2, 3, 5, 7)
        worths = []
        for ways in itertools.product(range(4), repeat=4):
            one = {**self.picks, **dict(zip(free, ways))}
            worths.append(worth(sheet, tuple(one[place] for place in range(10))))
        self.assertEqual(self.chooser.mean(), mean_of_all(worths))


class Walks(Both):
    def step(self, draw):
        """Something drawn is done."""
        kind = draw.below(4)
        free = [place for place in range(len(self.ways)) if place not in self.picks]
        if kind == 0 and len(self.standing) < 16:
            self.put(drawn_wish(draw, self.ways))
        elif kind == 1 and self.standing:
            self.drop(draw.shuffled(sorted(self.standing))[0])
        elif kind == 2 and free:
            place = draw.shuffled(free)[0]
            self.choose(place, draw.below(self.ways[place]))
        elif kind == 3 and self.picks:
            self.let(draw.shuffled(sorted(self.picks))[0])

    def test_drawn_walks(self):
        draw = Draw(208)
        for turn in range(25):
            self.begin(drawn_ways(draw))
            for wish in range(draw.within(0, 5)):
                self.put(drawn_wish(draw, self.ways))
            for step in range(15):
                self.step(draw)
                self.check()

    def test_two_side_by_side(self):
        draw = Draw(209)
        for ways in (WAYS, (2, 2), (4, 1)):
            one, other = Chooser(ways), Chooser(ways)
            self.assertEqual([one.put(SHORT_WISH), one.put(SHORT_WISH)], [0, 1])
            self.assertEqual(other.sheet(), (ways, ()))
            self.assertEqual(other.put(("some", 3, ())), 0)
            one.choose(0, 1)
            self.assertEqual([one.chosen(), other.chosen()], [{0: 1}, {}])
            other.choose(0, 0)
            other.choose(1, 0)
            self.assertEqual([one.chosen(), other.chosen()], [{0: 1}, {0: 0, 1: 0}])
            one.drop(0)
            self.assertEqual(other.sheet(), (ways, (("some", 3, ()),)))
            one.let(0)
            self.assertEqual([one.chosen(), other.chosen()], [{}, {0: 0, 1: 0}])
            before = told_of(one)
            for turn in range(10):
                other.put(drawn_wish(draw, ways))
            self.assertEqual(told_of(one), before)
            self.assertEqual(one.put(SHORT_WISH), 2)


class TheAskersOwn(Both):
    def begin_and_choose(self):
        self.begin(WAYS)
        for wish in SHEET[1]:
            self.put(wish)
        self.choose(0, 1)

    def test_told_things_are_changed(self):
        self.begin_and_choose()
        before = told_of(self.chooser)
        picks = self.chooser.chosen()
        picks[2] = 0
        picks[0] = 0
        self.assertEqual(told_of(self.chooser), before)
        self.chooser.chosen().clear()
        self.assertEqual(told_of(self.chooser), before)
        means = self.chooser.means(2)
        means[0] = None
        means.append(7)
        self.assertEqual(told_of(self.chooser), before)
        self.let(0)
        self.check()

    def test_told_things_stay_as_they_were_told(self):
        self.begin_and_choose()
        told = (self.chooser.sheet(), self.chooser.chosen(), self.chooser.means(2), self.chooser.finish())
        before = copy.deepcopy(told)
        self.drop(1)
        self.let(0)
        self.put(WISH)
        self.choose(2, 0)
        self.assertEqual(told, before)

    def test_each_is_a_new_one(self):
        self.begin_and_choose()
        one, other = self.chooser.sheet(), self.chooser.sheet()
        for told in (one, self.chooser.sheet()):
            for path in spots(told):
                here = at_spot(told, path)
                if isinstance(here, tuple) and here:
                    self.assertIsNot(here, at_spot(other, path))
                    if path[:1] == (1,) and len(path) > 1:
                        self.assertIsNot(here, at_spot(SHEET, path))
        self.assertIsNot(one[0], WAYS)
        self.assertIsNot(self.chooser.chosen(), self.chooser.chosen())
        self.assertIsNot(self.chooser.means(2), self.chooser.means(2))
        self.assertIsNot(self.chooser.finish(), self.chooser.finish())
        self.assertIsNot(self.chooser.mean(), self.chooser.mean())

    def test_what_was_handed_in_is_changed_behind_the_call(self):
        ways, parts, some = [2, 1, 3], [], [0]
        self.begin(tuple(ways))
        ways[0] = 4
        parts.append((2, tuple(some)))
        self.put(("all", 9, tuple(parts)))
        some.append(1)
        parts.append((0, (0,)))
        self.check()
        refused = ["all", 9, [(2, [0])]]
        self.refused_and_as_before(NoWish, self.chooser.put, refused)
        refused[2].append((0, [0]))
        refused.clear()
        self.check()


class Refusals(Both):
    def begin_and_choose(self):
        self.begin(WAYS)
        for wish in SHEET[1]:
            self.put(wish)
        self.drop(1)
        self.choose(1, 0)

    def test_no_ways(self):
        for thing in NO_WAYS:
            self.refused(NoWays, Chooser, thing)
        for place in range(3):
            for odd in ODD_THINGS + [0, 5, (), (2,)]:
                self.refused(NoWays, Chooser, with_spot(WAYS, (place,), odd))

    def test_ways_at_the_edges(self):
        for ways in ((), (1,), (4,), (1,) * 10, (4,) * 10, (1, 2, 3, 4)):
            self.assertEqual(Chooser(ways).sheet(), (ways, ()))

    def test_no_wish(self):
        self.begin_and_choose()
        for thing in NO_WISHES:
            self.refused_and_as_before(NoWish, self.chooser.put, thing)
        for path in spots(WISH):
            for odd in ODD_THINGS + ["ab", ((),)]:
                self.refused(NoWish, self.chooser.put, with_spot(WISH, path, odd))
            here = at_spot(WISH, path)
            if isinstance(here, tuple):
                self.refused(NoWish, self.chooser.put, with_spot(WISH, path, list(here)))
        self.check()
        # No number is taken by what was refused.
        self.put(WISH)
        self.assertEqual(sorted(self.standing), [0, 2, 3])

    def test_a_wish_for_other_ways(self):
        wish = ("all", 5, ((1, (1,)), (2, (3,))))
        self.assertEqual(Chooser((1, 2, 4)).put(wish), 0)
        for ways in ((1, 1, 4), (1, 2, 3), (1, 2), (), (4, 1, 4)):
            self.refused(NoWish, Chooser(ways).put, wish)

    def test_no_wish_goes_ahead_of_too_many(self):
        self.begin(WAYS)
        for turn in range(16):
            self.put(WISH)
        for thing in NO_WISHES:
            self.refused_and_as_before(NoWish, self.chooser.put, thing)
        for thing in (WISH, ("some", 0, ()), SHEET[1][0]):
            self.refused_and_as_before(TooMany, self.chooser.put, thing)
        self.drop(7)
        self.put(WISH)
        self.assertEqual(max(self.standing), 16)
        self.refused_and_as_before(TooMany, self.chooser.put, WISH)

    def test_no_number(self):
        self.begin_and_choose()
        for thing in NOTHING_AT_ALL + [1, 3, 4, 99, [2], {2: 2}, (2,), "0", "2", SHEET, WISH]:
            self.refused_and_as_before(NoNumber, self.chooser.drop, thing)
        self.drop(0)
        self.refused_and_as_before(NoNumber, self.chooser.drop, 0)
        self.drop(2)
        for number in range(5):
            self.refused_and_as_before(NoNumber, self.chooser.drop, number)
        self.begin(WAYS)
        self.refused_and_as_before(NoNumber, self.chooser.drop, 0)
        self.put(WISH)
        self.put(WISH)
        # Here 0 and 1 stand, for which truths would pass.
        for truth in (True, False):
            self.refused_and_as_before(NoNumber, self.chooser.drop, truth)
        self.check()

    def test_no_place(self):
        self.begin_and_choose()
        things = NOTHING_AT_ALL + [1, 3, 4, 10, [0], {0: 0}, "0", "1", SHEET]
        for thing in things:
            self.refused_and_as_before(NoPlace, self.chooser.means, thing)
            for way in (0, 1, 9, None, True, []):
                self.refused(NoPlace, self.chooser.choose, thing, way)
            self.refused_and_as_before(NoPlace, self.chooser.choose, thing, 0)
        self.begin(())
        for thing in things + [0]:
            self.refused_and_as_before(NoPlace, self.chooser.means, thing)
            self.refused_and_as_before(NoPlace, self.chooser.choose, thing, 0)
            self.refused_and_as_before(NoPlace, self.chooser.let, thing)

    def test_no_place_of_chosen_ones(self):
        self.begin_and_choose()
        self.choose(2, 1)
        for way in (0, 1, 2, 3, None):
            self.refused_and_as_before(NoPlace, self.chooser.choose, 2, way)
            self.refused_and_as_before(NoPlace, self.chooser.choose, 1, way)
        self.refused_and_as_before(NoPlace, self.chooser.means, 2)
        self.let(2)
        self.choose(2, 0)
        self.check()

    def test_then_no_way(self):
        self.begin_and_choose()
        for place, many in ((0, 2), (2, 3)):
            for way in NOTHING_AT_ALL + [many, many + 1, 4, 99, [0], {0: 0}, "0", (0,)]:
                self.refused_and_as_before(NoWay, self.chooser.choose, place, way)
        self.choose(0, 1)
        self.choose(2, 2)
        self.check()

    def test_let_of_what_is_not_chosen(self):
        self.begin_and_choose()
        for thing in NOTHING_AT_ALL + [0, 2, 3, 4, [1], {1: 1}, "1"]:
            self.refused_and_as_before(NoPlace, self.chooser.let, thing)
        self.choose(0, 0)
        for truth in (True, False):
            self.refused_and_as_before(NoPlace, self.chooser.let, truth)
        self.let(0)
        self.refused_and_as_before(NoPlace, self.chooser.let, 0)
        self.let(1)
        self.refused_and_as_before(NoPlace, self.chooser.let, 1)
        self.check()


if __name__ == "__main__":
    unittest.main()
