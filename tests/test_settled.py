"""Whether a choosing is settled, and what settles from it, against trying whole choosings."""

import unittest
from fractions import Fraction

from meanchoice.chosen import chosen, most
from meanchoice.errors import NoChoosing, NoSheet
from meanchoice.means import mean
from meanchoice.settled import is_settled, settle
from meanchoice.sheets import worth
from things import (
    BIG, EMPTY, NO_SHEETS, ODD_THINGS, OTHER_THINGS, SHEET, Draw, Unchanged, all_choosings, drawn_choosing, drawn_sheet,
    drawn_wish, great_sheet,
)

NO_CHOOSINGS = OTHER_THINGS + [
    (), (0,), (0, 0), (0, 0, 0, 0), (2, 0, 0), (0, 1, 0), (0, 0, 3), (0, 0, -1), [0, 0, 0], (0, 0, True),
    (False, 0, 0), (0, None, 0), (0, 0, "0"), (0, (0,), 0), (0, [0], 0), "000", {0: 0, 1: 0, 2: 0}, ((0, 0, 0),),
    (0, 0, BIG), (-BIG, 0, 0),
]


def put(choosing, place, way):
    return choosing[:place] + (way,) + choosing[place + 1:]


def neighbours(sheet, choosing):
    return [put(choosing, place, way) for place, many in enumerate(sheet[0]) for way in range(many)]


def is_settled_by_all(sheet, choosing):
    return all(worth(sheet, one) <= worth(sheet, choosing) for one in neighbours(sheet, choosing))


def settled_from(sheet, choosing):
    """What settles, by trying each way of each place again from the first one on behind each step."""
    place = 0
    while place < len(choosing):
        worths = [worth(sheet, put(choosing, place, way)) for way in range(sheet[0][place])]
        if max(worths) > worth(sheet, choosing):
            choosing, place = put(choosing, place, worths.index(max(worths))), 0
        else:
            place += 1
    return choosing


def drawn_sheets(seed, many=40):
    """Sheets whose weights are small at times, so that ties come."""
    draw = Draw(seed)
    sheets = [SHEET, EMPTY, ((1, 1), (("all", 5, ()),)), ((4, 4), ())]
    for turn in range(many):
        ways, wishes = drawn_sheet(draw)
        high = (99, 3)[draw.below(2)]
        sheets.append((ways, tuple((kind, weight % (high + 1), parts) for kind, weight, parts in wishes)))
    return sheets


class IsSettled(Unchanged):
    def check(self, sheet, choosing, wanted):
        self.assertIs(self.told(is_settled, sheet, choosing), wanted, (sheet, choosing))

    def test_a_sheet(self):
        told = {one: is_settled(SHEET, one) for one in all_choosings(SHEET)}
        self.assertEqual([one for one in told if told[one]], [(0, 0, 0), (0, 0, 1), (1, 0, 2)])

    def test_as_much_is_not_more(self):
        for one in all_choosings(((2, 3), ())):
            self.check(((2, 3), ()), one, True)
            self.check(((2, 3), (("all", 9, ()),)), one, True)
            self.check(((2, 3), (("all", 0, ((0, (1,)),)),)), one, True)

    def test_at_the_first_and_at_the_last_place(self):
        sheet = ((2, 2, 2), (("all", 1, ((0, (1,)),)), ("all", 1, ((2, (0,)),))))
        self.check(sheet, (1, 0, 0), True)
        self.check(sheet, (1, 1, 0), True)
        self.check(sheet, (0, 0, 0), False)
        self.check(sheet, (1, 0, 1), False)

    def test_settled_but_not_the_best(self):
        sheet = ((2, 2), (("all", 9, ((0, (1,)), (1, (1,)))), ("all", 2, ((0, (0,)), (1, (0,))))))
        self.check(sheet, (0, 0), True)
        self.check(sheet, (1, 1), True)
        self.check(sheet, (0, 1), False)
        self.assertEqual(most(sheet), (9, (1, 1)))

    def test_no_places(self):
        self.check(EMPTY, (), True)
        self.check(((), (("all", 7, ()),)), (), True)

    def test_against_all(self):
        seen = set()
        for sheet in drawn_sheets(241):
            for one in all_choosings(sheet):
                wanted = is_settled_by_all(sheet, one)
                seen.add(wanted)
                self.check(sheet, one, wanted)
        self.assertEqual(seen, {True, False})

    def test_the_best_ones_are_settled(self):
        for sheet in drawn_sheets(242):
            self.check(sheet, most(sheet)[1], True)

    def test_ten_places(self):
        sheet, draw = great_sheet(243), Draw(244)
        for turn in range(10):
            one = drawn_choosing(draw, sheet[0])
            with self.within_short():
                self.check(sheet, one, is_settled_by_all(sheet, one))


class Settle(Unchanged):
    def check(self, sheet, choosing, wanted):
        told = self.told(settle, sheet, choosing)
        self.check_numbers(told)
        self.assertEqual(told, wanted, (sheet, choosing))
        self.assertIs(is_settled(sheet, told), True)
        self.assertGreaterEqual(worth(sheet, told), worth(sheet, choosing))

    def test_a_sheet(self):
        wanted = {
            (0, 0, 0): (0, 0, 0), (0, 0, 1): (0, 0, 1), (0, 0, 2): (1, 0, 2),
            (1, 0, 0): (0, 0, 0), (1, 0, 1): (0, 0, 1), (1, 0, 2): (1, 0, 2),
        }
        for one, end in wanted.items():
            self.check(SHEET, one, end)

    def test_the_least_place_goes_first(self):
        # Either place would do; by the one the other one is settled, and by place 1 more would come of it.
        sheet = ((2, 2), (("all", 3, ((0, (1,)), (1, (0,)))), ("all", 8, ((0, (0,)), (1, (1,))))))
        self.check(sheet, (0, 0), (1, 0))
        self.check(sheet, (1, 1), (0, 1))
        self.check(((2, 3), (("some", 5, ((0, (1,)), (1, (2,)))),)), (0, 0), (1, 0))

    def test_from_the_least_place_again(self):
        # 1 goes over, by which 0 does, ahead of 2, by which 2 has nothing to gain.
        wishes = (("all", 9, ((1, (1,)),)), ("all", 5, ((0, (1,)), (1, (1,)))), ("all", 4, ((0, (0,)), (2, (1,)))),
                  ("all", 1, ((0, (0,)),)))
        sheet = ((2, 2, 2), wishes)
        self.check(sheet, (0, 0, 0), (1, 1, 0))

    def test_the_least_way_that_is_worth_most(self):
        self.check(((4,), (("all", 5, ((0, (1, 3)),)), ("all", 4, ((0, (0,)),)))), (0,), (1,))
        self.check(((4,), (("all", 5, ((0, (1, 3)),)), ("all", 4, ((0, (0,)),)))), (2,), (1,))
        self.check(((4,), (("all", 5, ((0, (1, 3)),)), ("all", 4, ((0, (0,)),)))), (3,), (3,))
        # Not the first one that is worth more, but the best one.
        self.check(((4,), (("all", 5, ((0, (1, 3)),)), ("all", 4, ((0, (3,)),)))), (0,), (3,))

    def test_no_places_no_wishes(self):
        self.check(EMPTY, (), ())
        self.check(((), (("all", 7, ()),)), (), ())
        self.check(((2, 3), ()), (1, 2), (1, 2))

    def test_from_all_choosings(self):
        for sheet in drawn_sheets(245):
            for one in all_choosings(sheet):
                self.check(sheet, one, settled_from(sheet, one))

    def test_from_settled_ones(self):
        for sheet in drawn_sheets(246):
            for one in all_choosings(sheet):
                if is_settled_by_all(sheet, one):
                    self.check(sheet, one, one)
                self.check(sheet, settle(sheet, one), settle(sheet, one))

    def test_from_the_one_of_chosen(self):
        for sheet in drawn_sheets(247) + [great_sheet(seed) for seed in (248, 249)]:
            told = settle(sheet, chosen(sheet))
            self.check(sheet, chosen(sheet), settled_from(sheet, chosen(sheet)))
            self.assertGreaterEqual(worth(sheet, told), Fraction(*mean(sheet, ())))

    def test_ten_places(self):
        draw = Draw(250)
        for seed in (251, 252, 253):
            sheet = great_sheet(seed)
            for turn in range(4):
                one = drawn_choosing(draw, sheet[0])
                wanted = settled_from(sheet, one)
                with self.within_short():
                    self.check(sheet, one, wanted)

    def test_ten_places_of_one_way(self):
        draw = Draw(254)
        ways = (1,) * 10
        sheet = (ways, tuple(drawn_wish(draw, ways) for wish in range(16)))
        self.check(sheet, (0,) * 10, (0,) * 10)

    def test_what_is_told_is_a_new_one(self):
        for one in all_choosings(SHEET):
            self.assertIsNot(settle(SHEET, one), one)


class OrderOfRefusals(Unchanged):
    def test_no_sheet_goes_ahead_of_all(self):
        for thing in NO_SHEETS:
            for choosing in [(), (0,), (0, 0, 0), None, [0]]:
                self.refused(NoSheet, is_settled, thing, choosing)
                self.refused(NoSheet, settle, thing, choosing)

    def test_then_no_choosing(self):
        for thing in NO_CHOOSINGS:
            self.refused(NoChoosing, is_settled, SHEET, thing)
            self.refused(NoChoosing, settle, SHEET, thing)
        for place in range(3):
            for odd in ODD_THINGS + [4, 5, (), (0,)]:
                self.refused(NoChoosing, is_settled, SHEET, put((0, 0, 0), place, odd))
                self.refused(NoChoosing, settle, SHEET, put((0, 0, 0), place, odd))
        for thing in [(0,), [], None, (0, 0, 0)]:
            self.refused(NoChoosing, is_settled, EMPTY, thing)
            self.refused(NoChoosing, settle, EMPTY, thing)


if __name__ == "__main__":
    unittest.main()
