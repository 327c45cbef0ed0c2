"""What is promised of the whole program: how what the modules tell stands to one another."""

import itertools
import unittest
from fractions import Fraction

from meanchoice.apart import chosen_by, mean_of, order_by
from meanchoice.best import best_sides, fewest_hits, greatest_apart
from meanchoice.boards import breaks, signs_by, squares
from meanchoice.chooser import Chooser
from meanchoice.chosen import chosen, means_of, most, never_falls
from meanchoice.desk import Desk
from meanchoice.families import best_of, family_mean, is_even, twos
from meanchoice.hits import draws_by, enough, mean_missed
from meanchoice.ins import ins_by, mean_left, pruned
from meanchoice.means import mean
from meanchoice.settled import settle
from meanchoice.shares import mean_by, rounded
from meanchoice.sheets import worth
from meanchoice.sides import parted, settled, sides_by
from meanchoice.texts import read_sheet, show_fraction, show_sheet
from meanchoice.webs import sheet_of
from meanchoice.weights import is_safe, least_safe, signs_by_weight
from things import (
    EMPTY, SHEET, Draw, Unchanged, all_choosings, broken_by, drawn_boards, drawn_book, drawn_choosing, drawn_sheet,
    drawn_web, drawn_wish, full_web, great_boards, great_books, great_sheet, great_webs, is_missed, row_sums,
)


def sheets(seed, many=40):
    draw = Draw(seed)
    return [SHEET, EMPTY] + [drawn_sheet(draw) for turn in range(many)]


def webs(seed, many=40):
    draw = Draw(seed)
    drawn = [drawn_web(draw, 8) for turn in range(many)]
    return drawn + [(0, ()), (1, ()), (5, ())] + [full_web(n, 7) for n in range(2, 8)] + great_webs(seed + 1)


def books(seed, many=60):
    draw = Draw(seed)
    return [drawn_book(draw, 10, 16) for turn in range(many)] + [(1, ()), (10, ())] + great_books(seed + 1)


def told(fraction):
    return Fraction(*fraction)


class Choosings(Unchanged):
    def test_the_mean_is_that_of_all_goings_on_and_of_one_step_on(self):
        for sheet in sheets(401):
            for one in all_choosings(sheet)[:20]:
                for many in range(len(one) + 1):
                    begun = one[:many]
                    ends = [worth(sheet, other) for other in all_choosings(sheet) if other[:many] == begun]
                    self.assertEqual(told(mean(sheet, begun)), Fraction(sum(ends), len(ends)))
                    if many < len(one):
                        longer = [told(mean(sheet, begun + (way,))) for way in range(sheet[0][many])]
                        self.assertEqual(told(mean(sheet, begun)), sum(longer) / len(longer))

    def test_those_that_never_fall(self):
        for sheet in sheets(402):
            for one in all_choosings(sheet):
                if never_falls(sheet, one):
                    self.assertGreaterEqual(worth(sheet, one), told(mean(sheet, ())))
        for sheet in sheets(403) + [great_sheet(404)]:
            self.assertIs(never_falls(sheet, chosen(sheet)), True)
            self.assertEqual(means_of(sheet, chosen(sheet))[-1], (worth(sheet, chosen(sheet)), 1))

    def test_what_settles_from_the_chosen_one(self):
        for sheet in sheets(405) + [great_sheet(406)]:
            end = worth(sheet, settle(sheet, chosen(sheet)))
            self.assertGreaterEqual(end, worth(sheet, chosen(sheet)))
            self.assertGreaterEqual(end, told(mean(sheet, ())))

    def test_shares(self):
        draw = Draw(407)
        for sheet in sheets(408):
            for turn in range(5):
                shares = tuple(tuple([draw.within(1, 9)] + [draw.below(10)] * (many - 1)) for many in sheet[0])
                self.assertGreaterEqual(worth(sheet, rounded(sheet, shares)), told(mean_by(sheet, shares)))
                self.assertLessEqual(told(mean_by(sheet, shares)), most(sheet)[0])

    def test_even_families(self):
        draw = Draw(409)
        for n in range(11):
            family, ways = twos(n), (2,) * n
            self.assertIs(is_even(ways, family, min(n, 2)), True)
            for turn in range(10):
                sheet = (ways, tuple(drawn_wish(draw, ways, min(n, 2)) for wish in range(8)))
                self.assertEqual(family_mean(sheet, family), mean(sheet, ()))
                self.assertGreaterEqual(worth(sheet, best_of(sheet, family)), told(mean(sheet, ())))


class Webs(Unchanged):
    def test_sides(self):
        for web in webs(411):
            weights = sum(weight for i, j, weight in web[1])
            for k in (2, 3, 4):
                ways = (k,) * web[0]
                some = [sides_by(web, k), settled(web, k, sides_by(web, k)), settled(web, k, (0,) * web[0]),
                        settled(web, k, drawn_choosing(Draw(k), ways))]
                for sides in some:
                    self.assertGreaterEqual(parted(web, k, sides), weights - Fraction(weights, k))
                if k ** web[0] <= 1024:
                    best, sides = best_sides(web, k)
                    self.assertEqual(parted(web, k, sides), best)
                    self.assertEqual(parted(web, k, settled(web, k, sides)), best)
                    for sides in some:
                        self.assertLessEqual(parted(web, k, sides), best)
                        self.assertGreaterEqual(parted(web, k, sides), best - Fraction(best, k))

    def test_the_best_sides_are_worth_most(self):
        for web in webs(413):
            for k in (2, 3, 4):
                if k * len(web[1]) <= 16 and k ** web[0] <= 1024:
                    weights = sum(weight for i, j, weight in web[1])
                    sheet = sheet_of(web, k)
                    self.assertEqual(most(sheet)[0], best_sides(web, k)[0] + (k - 1) * weights)

    def test_sets_apart(self):
        for web in webs(415):
            greatest = greatest_apart(web)
            self.assertTrue(self.is_apart(web, greatest))
            places = chosen_by(web, order_by(web))
            self.assertTrue(self.is_apart(web, places))
            self.assertGreaterEqual(len(places), told(mean_of(web, ())))
            self.assertLessEqual(len(places), len(greatest))
            for k in range(2, 10):
                left = pruned(web, ins_by(web, k))
                self.assertTrue(self.is_apart(web, left))
                self.assertGreaterEqual(len(left), told(mean_left(web, k, ())))
                self.assertLessEqual(len(left), len(greatest))

    def test_no_order_and_no_ins_choose_more_than_the_greatest(self):
        draw = Draw(417)
        for web in webs(418):
            greatest = len(greatest_apart(web))
            for turn in range(10):
                self.assertLessEqual(len(chosen_by(web, draw.shuffled(range(web[0])))), greatest)
                self.assertLessEqual(len(pruned(web, tuple(draw.below(2) for place in range(web[0])))), greatest)
            # By the greatest set ahead, or in alone, it is chosen itself.
            first = greatest_apart(web)
            order = first + tuple(place for place in range(web[0]) if place not in first)
            self.assertEqual(chosen_by(web, order), first)
            self.assertEqual(pruned(web, tuple(int(place in first) for place in range(web[0]))), first)

    def is_apart(self, web, places):
        return not any(i in places and j in places for i, j, weight in web[1])


class Boards(Unchanged):
    def test_signs_by_squares(self):
        for board in drawn_boards(421) + great_boards(422):
            signs = signs_by(board)
            self.assertLessEqual(sum(one * one for one in row_sums(board, signs)), squares(board, ()))
            for bound in (1, 5, 20, 99):
                for begun in ((), signs[:1], signs[:3], signs):
                    mean_breaks = told(breaks(board, bound, begun))
                    self.assertLessEqual(mean_breaks, Fraction(squares(board, begun), bound * bound))

    def test_signs_by_weights(self):
        for board in drawn_boards(423) + great_boards(424):
            signs, least = signs_by_weight(board), least_safe(board)
            self.assertLessEqual(least, 85)
            for bound in range(1, 100):
                self.assertIs(is_safe(board, bound), bound >= least)
                if bound >= least:
                    self.assertEqual(broken_by(board, bound, signs), 0)


class Books(Unchanged):
    def test_draws_that_hit(self):
        for book in books(431):
            number, fewest = enough(book), fewest_hits(book)
            self.assertFalse(any(is_missed(one, fewest) for one in book[1]))
            self.assertEqual(mean_missed(book, fewest, 0), (0, 1))
            self.assertGreaterEqual(number, len(fewest))
            draws = draws_by(book, number)
            self.assertEqual(mean_missed(book, draws, 0), (0, 1))
            self.assertGreaterEqual(len(set(draws)), len(fewest))
            for fewer in range(len(fewest)):
                self.assertGreaterEqual(told(mean_missed(book, (), fewer)), 1)
                self.assertNotEqual(mean_missed(book, draws_by(book, fewer), 0), (0, 1))


class Kept(Unchanged):
    def test_what_is_kept_is_as_told_anew(self):
        draw = Draw(441)
        for sheet in sheets(442) + [great_sheet(443)]:
            ways, wishes = sheet
            chooser, desk = Chooser(ways), Desk()
            desk.say("ways" + "".join(f" {many}" for many in ways))
            for number, wish in enumerate((drawn_wish(draw, ways),) * 3 + wishes[:13]):
                self.assertEqual(chooser.put(wish), number)
                row = show_sheet((ways, (wish,))).split("; ")[1]
                self.assertEqual(desk.say(row), str(number))
            for number in range(3):
                chooser.drop(number)
                self.assertEqual(desk.say(f"drop {number}"), "ok")
            now = (ways, wishes[:13])
            self.assertEqual(chooser.sheet(), now)
            self.assertEqual(read_sheet(show_sheet(chooser.sheet())), now)
            self.assertEqual(chooser.finish(), chosen(now))
            begun = ()
            for place, way in enumerate(drawn_choosing(draw, ways)):
                self.assertEqual(chooser.means(place), [mean(now, begun + (other,)) for other in range(ways[place])])
                chooser.choose(place, way)
                self.assertEqual(desk.say(f"choose {place} {way}"), "ok")
                begun += (way,)
                self.assertEqual(chooser.mean(), mean(now, begun))
                self.assertEqual(desk.say("mean"), show_fraction(mean(now, begun)))
            self.assertEqual(chooser.finish(), begun)
            self.assertEqual(chooser.mean(), (worth(now, begun), 1))
            self.assertEqual(desk.say("finish"), " ".join(map(str, begun)) or "none")

    def test_the_order_of_choosing_does_not_matter(self):
        for order in itertools.permutations(range(3)):
            chooser = Chooser(SHEET[0])
            for wish in SHEET[1]:
                chooser.put(wish)
            for place in order:
                chooser.choose(place, SHEET[0][place] - 1)
            self.assertEqual(chooser.mean(), (51, 1))


if __name__ == "__main__":
    unittest.main()
