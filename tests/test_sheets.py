"""What is a sheet, and that nothing handed in is changed."""

import copy
import unittest

from meanchoice.sheets import is_sheet
from things import BIG, ODD_THINGS, OTHER_THINGS, at_spot, spots, with_spot

# Noughts and ones stand at many spots, so truths would pass there for numbers.
SHEET = (
    (1, 2, 4, 3),
    (
        ("all", 0, ((0, (0,)), (1, (0, 1)))),
        ("some", 1, ((1, (1,)), (2, (0, 1, 3)), (3, ()))),
        ("all", 99, ()),
    ),
)


def wish_of(parts):
    return ("all", 5, parts)


class SheetTest(unittest.TestCase):
    def check(self, thing, wanted):
        before = copy.deepcopy(thing)
        self.assertIs(is_sheet(thing), wanted, thing)
        self.assertEqual(repr(thing), repr(before))

    def check_wish(self, wish, wanted):
        """Of a sheet with places of two, three and four ways."""
        self.check(((2, 3, 4), (wish,)), wanted)
        self.check(((2, 3, 4), (("some", 1, ()), wish, ("all", 2, ((0, (1,)),)))), wanted)


class OrdinaryOnes(SheetTest):
    def test_a_sheet(self):
        self.check(SHEET, True)

    def test_like_wishes_and_like_parts_of_unlike_wishes(self):
        wish = ("some", 3, ((0, (1,)), (2, (1,))))
        self.check(((2, 2, 2), (wish, wish, ("all", 3, ((0, (1,)), (2, (1,)))))), True)


class Edges(SheetTest):
    def test_places(self):
        self.check(((), ()), True)
        self.check(((), (("all", 1, ()), ("some", 1, ()))), True)
        self.check(((2,) * 9, ()), True)
        self.check(((2,) * 10, ()), True)
        self.check(((2,) * 10, (("all", 1, ((9, (0,)),)),)), True)
        self.check(((2,) * 11, ()), False)
        self.check(((2,) * 12, ()), False)

    def test_ways(self):
        for many in (1, 2, 3, 4):
            self.check(((many,), ()), True)
            self.check(((2, many, 2), ()), True)
        for many in (0, 5, -1, 6, BIG, -BIG):
            self.check(((many,), ()), False)
            self.check(((many, 2), ()), False)
            self.check(((2, many), ()), False)

    def test_wishes(self):
        wish = ("all", 1, ((0, (0,)),))
        for many in (0, 1, 15, 16):
            self.check(((2,), (wish,) * many), True)
        for many in (17, 18, 40):
            self.check(((2,), (wish,) * many), False)

    def test_weights(self):
        for weight in (0, 1, 50, 98, 99):
            self.check_wish(("all", weight, ()), True)
        for weight in (-1, 100, 101, -99, BIG, -BIG):
            self.check_wish(("all", weight, ()), False)

    def test_kinds(self):
        for kind in ("all", "some"):
            self.check_wish((kind, 1, ()), True)
        for kind in ("", "any", "none", "All", "SOME", "all ", " some", "al", "allsome", "s", ("all",), ["all"], 0):
            self.check_wish((kind, 1, ()), False)

    def test_parts_at_no_and_at_all_places(self):
        self.check_wish(wish_of(()), True)
        self.check_wish(wish_of(((0, (0,)), (1, (0,)), (2, (0,)))), True)
        every = tuple((place, (0, 1, 2, 3)) for place in range(10))
        self.check(((4,) * 10, (wish_of(every),) * 16), True)

    def test_ways_of_a_part(self):
        for place, many in ((0, 2), (1, 3), (2, 4)):
            self.check_wish(wish_of(((place, ()),)), True)
            self.check_wish(wish_of(((place, tuple(range(many))),)), True)
            self.check_wish(wish_of(((place, (many - 1,)),)), True)
            for way in (many, many + 1, -1, BIG, -BIG):
                self.check_wish(wish_of(((place, (way,)),)), False)
            self.check_wish(wish_of(((place, tuple(range(many + 1))),)), False)
            self.check_wish(wish_of(((place, (-1, 0)),)), False)

    def test_places_that_there_are_not(self):
        for place in (3, 4, -1, -3, 10, BIG, -BIG):
            self.check_wish(wish_of(((place, ()),)), False)
            self.check_wish(wish_of(((place, (0,)),)), False)
        self.check_wish(wish_of(((0, (0,)), (1, (0,)), (2, (0,)), (3, (0,)))), False)
        self.check(((), (wish_of(((0, ()),)),)), False)

    def test_places_that_do_not_rise(self):
        self.check_wish(wish_of(((1, (0,)), (0, (0,)))), False)
        self.check_wish(wish_of(((0, (0,)), (2, (0,)), (1, (0,)))), False)
        self.check_wish(wish_of(((1, (0,)), (1, (0,)))), False)
        self.check_wish(wish_of(((1, (0,)), (1, (1,)))), False)
        self.check_wish(wish_of(((0, ()), (1, ()), (1, ()))), False)

    def test_ways_of_a_part_that_do_not_rise(self):
        for some in ((1, 0), (0, 0), (1, 1), (0, 2, 1), (0, 1, 1), (2, 1, 0), (0, 1, 2, 2)):
            self.check_wish(wish_of(((2, some),)), False)
        self.check_wish(wish_of(((0, (0, 1)), (2, (3, 1)))), False)


class WrongThings(SheetTest):
    def test_odd_things_at_each_spot(self):
        for path in spots(SHEET):
            for odd in ODD_THINGS:
                self.check(with_spot(SHEET, path, odd), False)

    def test_lists_for_tuples(self):
        for path in spots(SHEET):
            here = at_spot(SHEET, path)
            if isinstance(here, tuple):
                self.check(with_spot(SHEET, path, list(here)), False)
                self.check(with_spot(SHEET, path, dict.fromkeys(range(len(here)), 1)), False)

    def test_numbers_and_texts_for_tuples(self):
        for path in spots(SHEET):
            if isinstance(at_spot(SHEET, path), tuple):
                for odd in (0, 1, "all", "some", "ab", "abc"):
                    self.check(with_spot(SHEET, path, odd), False)

    def test_tuples_for_numbers_and_kinds(self):
        for path in spots(SHEET):
            if not isinstance(at_spot(SHEET, path), tuple):
                for odd in ((), (0,), (1,), ("all",), ((),)):
                    self.check(with_spot(SHEET, path, odd), False)

    def test_odd_things_more_in_each_tuple(self):
        for path in spots(SHEET):
            here = at_spot(SHEET, path)
            if isinstance(here, tuple):
                for odd in ODD_THINGS + [(), "all", ((),), (0,)]:
                    self.check(with_spot(SHEET, path, here + (odd,)), False)

    def test_a_thing_fewer_in_each_tuple_of_set_length(self):
        ways, wishes = SHEET
        self.check((ways,), False)
        self.check((wishes,), False)
        self.check((), False)
        self.check((ways, wishes, wishes), False)
        self.check((wishes, ways), False)
        for wish in (("all", 1), ("all", ()), (1, ()), ("all",), ()):
            self.check_wish(wish, False)
        for wish in (("all", 1, (), ()), (1, "all", ()), ("all", (), 1)):
            self.check_wish(wish, False)
        for part in ((0,), ((0,),), (), (0, (0,), (0,)), ((0,), 0), (0, 0)):
            self.check_wish(wish_of((part,)), False)

    def test_a_way_fewer_than_the_wishes_speak_of(self):
        ways, wishes = SHEET
        self.check((ways[:-1], wishes), False)
        self.check(((), wishes), False)

    def test_parts_that_are_no_tuple_of_parts(self):
        self.check_wish(("all", 1, (0, (0,))), False)
        self.check_wish(("all", 1, (0, 1)), False)

    def test_other_things(self):
        for thing in OTHER_THINGS:
            self.check(thing, False)
            self.check((thing, thing), False)


if __name__ == "__main__":
    unittest.main()
