"""The rows of a desk and its answers, against a Chooser asked by hand; rows that are none; the order of refusals."""

import re
import unittest
from fractions import Fraction

from meanchoice.chooser import Chooser
from meanchoice.desk import Desk
from meanchoice.errors import MeanError, NoNumber, NoPlace, NoRow, NoWay, NoWays, NoWish, TooMany
from things import BIG, NUMBER, PART, Draw, Unchanged, drawn_wish, with_one_sign_off

ROW = re.compile("|".join([
    f"ways(?: {NUMBER})*", f"(?:all|some) {NUMBER}(?: {PART})*", f"(?:drop|let|means) {NUMBER}",
    f"choose {NUMBER} {NUMBER}", "mean|chosen|finish",
]))

# A row of each kind, good by its words.
ROWS = [
    "ways", "ways 2 3", "all 5", "all 5 0:1 1:0,2", "some 7 1:1,2", "some 0 0:", "drop 0", "choose 1 2", "let 0",
    "mean", "means 1", "chosen", "finish",
]

NO_ROWS = [
    "", " ", "  ", "x", "ok", "none", "Ways 2", "WAYS 2", "ways x", "ways 2,3", "ways 2;", "ways -1", "ways 02",
    "ways +2", "ways 1234567", "ways 0000001", "ways" + " 2" * 3 + " ", "ways  2", " ways 2", "ways 2 ", "ways ",
    "ways\t2", "ways 2\n", "ALL 5", "any 5", "all", "some", "all ", "all x", "all 05", "all 1000000", "all -5",
    "all 5 ", "all  5", "all 5  0:1", "all 5 0", "all 5 01", "all 5 :", "all 5 :1", "all 5 0:1:", "all 5 0::1",
    "all 5 0:1,", "all 5 0:,1", "all 5 0:,", "all 5 0:0,,1", "all 5 00:1", "all 5 0:01", "all 5 0:1234567",
    "all 5 1234567:1", "all 5 0:1;", "all 0:1", "all 5 0: 1", "all 5 0:1\t1:0", "all 5; some 5", "all 5 6",
    "all 5 x:1", "all 5 0:x", "put all 5", "drop", "drop 0 1", "drop x", "drop 00", "drop -1", "drop 1234567",
    "drop " + "1" * 5000, "drop 0 ", "drop  0", "drop 0:", "choose", "choose 0", "choose 0 1 1", "choose 0:1",
    "choose x 0", "choose 0 x", "choose 00 0", "choose 0 00", "choose 0 1234567", "choose 0  1", "choose 0 -1", "let",
    "let 0 1", "let x", "let 01", "let 1234567", "mean 0", "mean ", " mean", "mean\n", "means", "means 0 1", "means x",
    "means 00", "means 1234567", "means 0 ", "chosen 0", "chosen ", "finish 0", "finish ", "finish mean", "mean mean",
    "sheet", "Mean", "\t", "\n", "mean\tmean",
]


def shown(fraction):
    return str(Fraction(*fraction))


def joined(words):
    return " ".join(words) or "none"


def wish_of(kind, weight, parts):
    """The wish of a row, told by its numbers."""
    pairs = [part.split(":") for part in parts]
    parts = tuple((int(place), tuple(map(int, re.findall("[0-9]+", some)))) for place, some in pairs)
    return (kind, int(weight), parts)


class ByHand:
    """A Chooser that is asked by hand what a row says."""

    def __init__(self):
        self.chooser = None

    def say(self, row):
        if not ROW.fullmatch(row):
            raise NoRow(row)
        first, *rest = row.split()
        if first == "ways":
            self.chooser = Chooser(tuple(map(int, rest)))
            return "ok"
        if self.chooser is None:
            raise NoRow(row)
        if first in ("all", "some"):
            return str(self.chooser.put(wish_of(first, rest[0], rest[1:])))
        told = getattr(self.chooser, first)(*map(int, rest))
        if first == "mean":
            return shown(told)
        if first == "means":
            return " ".join(map(shown, told))
        if first == "chosen":
            return joined([f"{place}:{told[place]}" for place in sorted(told)])
        return joined(map(str, told)) if first == "finish" else "ok"


def outcome(desk, row):
    """The answer, or the kind of the refusal."""
    try:
        return desk.say(row)
    except MeanError as error:
        return type(error)


def state_of(desk):
    """All that can be asked of a desk without changing it."""
    asked = ["mean", "chosen", "finish"] + [f"means {place}" for place in range(11)]
    return [outcome(desk, row) for row in asked]


class DeskTest(Unchanged):
    def begin(self, *rows):
        desk = Desk()
        for row in rows:
            desk.say(row)
        return desk

    def check(self, desk, row, wanted):
        told = desk.say(row)
        self.assertIs(type(told), str, row)
        self.assertEqual(told, wanted, row)

    def check_all(self, desk, *pairs):
        for row, wanted in pairs:
            self.check(desk, row, wanted)

    def refused_and_as_before(self, refusal, desk, row):
        before = state_of(desk)
        self.refused(refusal, desk.say, row)
        self.assertEqual(state_of(desk), before, row)


class Answers(DeskTest):
    def test_each_kind_of_row(self):
        self.check_all(
            Desk(), ("ways 2 3", "ok"), ("mean", "0"), ("chosen", "none"), ("finish", "0 0"), ("means 0", "0 0"),
            ("all 5 0:1 1:0,2", "0"), ("some 7 1:1,2", "1"), ("mean", "19/3"), ("means 0", "14/3 8"),
            ("means 1", "5/2 7 19/2"), ("finish", "1 2"), ("choose 1 0", "ok"), ("chosen", "1:0"), ("mean", "5/2"),
            ("means 0", "0 5"), ("finish", "1 0"), ("choose 0 0", "ok"), ("chosen", "0:0 1:0"), ("mean", "0"),
            ("finish", "0 0"), ("let 1", "ok"), ("chosen", "0:0"), ("drop 0", "ok"), ("finish", "0 1"), ("all 3", "2"),
            ("mean", "23/3"), ("let 0", "ok"), ("chosen", "none"),
        )

    def test_chosen_rises_in_whatever_order(self):
        desk = self.begin("ways 4 4 4 4 4 4 4 4 4 4")
        for place in (9, 3, 0, 7, 1):
            self.check(desk, f"choose {place} {place % 4}", "ok")
        self.check(desk, "chosen", "0:0 1:1 3:3 7:3 9:1")
        self.check(desk, "finish", "0 1 0 3 0 0 0 3 0 1")

    def test_ways_alone(self):
        self.check_all(
            Desk(), ("ways", "ok"), ("chosen", "none"), ("finish", "none"), ("mean", "0"), ("all 7", "0"),
            ("some 9", "1"), ("mean", "7"), ("finish", "none"), ("drop 0", "ok"), ("mean", "0"),
        )

    def test_parts_without_ways(self):
        self.check_all(
            Desk(), ("ways 2 2", "ok"), ("all 8 0:", "0"), ("mean", "0"), ("some 8 0: 1:1", "1"), ("mean", "4"),
            ("all 4 0:0,1 1:", "2"), ("mean", "4"), ("some 6 0:0,1", "3"), ("mean", "10"),
        )

    def test_ways_told_anew(self):
        desk = self.begin("ways 2 3", "all 5 0:1", "some 7 1:2", "choose 0 1")
        self.check_all(
            desk, ("mean", "22/3"), ("ways 2 3", "ok"), ("mean", "0"), ("chosen", "none"), ("all 9 0:1", "0"),
            ("mean", "9/2"), ("ways 4", "ok"), ("finish", "0"), ("some 2 0:3", "0"), ("mean", "1/2"), ("ways", "ok"),
            ("finish", "none"),
        )

    def test_a_hundred_wishes(self):
        desk = self.begin("ways 2")
        for number in range(120):
            self.check(desk, f"all {number % 100} 0:1", str(number))
            self.check(desk, "mean", shown((number % 100, 2)))
            self.check(desk, f"drop {number}", "ok")

    def test_two_side_by_side(self):
        one, other = Desk(), Desk()
        self.check(one, "ways 2 3", "ok")
        self.refused(NoRow, other.say, "mean")
        self.check(other, "ways 2 3", "ok")
        self.check(one, "all 6 0:1", "0")
        self.check(one, "choose 0 1", "ok")
        self.check_all(other, ("mean", "0"), ("chosen", "none"), ("all 4 0:0", "0"), ("choose 0 0", "ok"))
        self.check(other, "mean", "4")
        self.check_all(one, ("mean", "6"), ("chosen", "0:1"), ("ways 3", "ok"), ("chosen", "none"))
        self.check_all(other, ("mean", "4"), ("chosen", "0:0"))


class AgainstByHand(DeskTest):
    def drawn_row(self, draw, ways):
        """A row, good by its words, whose numbers mostly fit these ways."""
        kind = draw.below(12)
        place = draw.below(len(ways) + 1)
        if kind < 4:
            word, weight, parts = drawn_wish(draw, ways)
            words = [f"{at}:" + ",".join(map(str, some)) for at, some in parts]
            return " ".join([word, str(weight)] + words)
        if kind == 4 and draw.below(6) == 0:
            return "ways" + "".join(f" {draw.within(1, 4)}" for one in range(draw.below(5)))
        rows = [
            "mean", f"choose {place} {draw.below(4)}", f"choose {place} {draw.below(3)}", f"let {place}",
            f"drop {draw.below(12)}", f"means {place}", "chosen", "finish",
        ]
        return rows[kind - 4]

    def test_drawn_rows(self):
        draw = Draw(231)
        seen = {}
        for turn in range(30):
            desk, hand = Desk(), ByHand()
            for step in range(60):
                ways = hand.chooser.sheet()[0] if hand.chooser else ()
                row = self.drawn_row(draw, ways) if step else "ways 3 2 4"
                wanted = outcome(hand, row)
                self.assertEqual(outcome(desk, row), wanted, row)
                self.assertEqual(state_of(desk), state_of(hand), row)
                seen.setdefault(row.split()[0], set()).add(type(wanted))
        # Each kind of row was answered, and each that may be was refused.
        self.assertEqual(len(seen), 10)
        for first in ("choose", "let", "drop", "means"):
            self.assertEqual(seen[first], {str, type})

    def test_one_sign_more_or_fewer_or_another_one(self):
        rows = [
            "ways 2 3", "all 5 1:1 2:0,2", "some 7 1:", "drop 1", "choose 1 0", "let 0", "mean", "means 2", "chosen",
            "finish",
        ]
        for row in rows:
            begun = ("ways 2 3 4", "all 9 0:1 2:3", "some 8 0:0 1:1", "choose 0 1")
            desk, hand = self.begin(*begun), ByHand()
            for first in begun:
                hand.say(first)
            for changed in with_one_sign_off(row):
                wanted = outcome(hand, changed)
                self.assertEqual(outcome(desk, changed), wanted, changed)
                if wanted != NoRow:
                    self.assertEqual(state_of(desk), state_of(hand), changed)
            self.assertEqual(state_of(desk), state_of(hand))


class Refusals(DeskTest):
    def test_no_row_where_no_chooser_stands(self):
        desk = Desk()
        for row in ROWS + NO_ROWS + ["drop 5", "let 99", "choose 9 9", "means 77", "all 100", "some 5 9:9"]:
            if not ROW.fullmatch(row) or not row.startswith("ways"):
                self.refused(NoRow, desk.say, row)
        self.refused(NoWays, desk.say, "ways 5")
        # What was refused lets no Chooser stand.
        self.refused(NoRow, desk.say, "mean")
        self.check(desk, "ways 2", "ok")
        self.check(desk, "mean", "0")

    def test_no_row_by_its_words(self):
        desk = self.begin("ways 2 3", "all 5 0:1 1:0,2", "choose 0 1")
        for row in NO_ROWS:
            self.assertIsNone(ROW.fullmatch(row), row)
            self.refused_and_as_before(NoRow, desk, row)
        for thing in (None, True, 5, BIG, ("mean",), ["mean"], {}):
            self.refused(NoRow, desk.say, thing)
        self.check(desk, "some 1", "1")

    def test_empty_words_at_each_spot(self):
        desk = self.begin("ways 2 3", "all 5 0:1", "choose 0 1")
        for row in ROWS:
            for changed in (" " + row, row + " ", row + "  ") + ((row.replace(" ", "  "),) if " " in row else ()):
                self.refused_and_as_before(NoRow, desk, changed)
            for spot in range(len(row) + 1):
                for sign in "\t\n":
                    self.refused(NoRow, desk.say, row[:spot] + sign + row[spot:])

    def test_no_ways(self):
        desk = self.begin("ways 2 3", "all 5 0:1", "choose 0 1")
        for row in ("ways 0", "ways 5", "ways 2 0", "ways 2 5 2", "ways 999999", "ways 10", "ways" + " 2" * 11,
                    "ways" + " 1" * 30):
            self.refused_and_as_before(NoWays, desk, row)
        self.check(desk, "all 5", "1")
        self.check(desk, "ways" + " 4" * 10, "ok")

    def test_no_wish_then_too_many(self):
        desk = self.begin("ways 2 3", "choose 0 1")
        none = [
            "all 100", "some 999999", "all 5 2:", "all 5 2:0", "all 5 0:2", "some 5 1:3", "all 5 0:1,0", "all 5 0:1,1",
            "all 5 1: 0:", "all 5 0:1 0:1", "some 5 0: 0:", "all 5 999999:", "all 100 0:1", "all 5 0:0 1:0 2:0",
        ]
        for row in none:
            self.refused_and_as_before(NoWish, desk, row)
        for number in range(16):
            self.check(desk, f"some {number} 1:0,2", str(number))
        for row in none:
            self.refused_and_as_before(NoWish, desk, row)
        for row in ("all 5", "some 7 1:1,2", "all 0 0:"):
            self.refused_and_as_before(TooMany, desk, row)
        for row in ("all 5 0", "all", "all 05", "some 7 1:1,"):
            self.refused_and_as_before(NoRow, desk, row)
        self.check(desk, "drop 3", "ok")
        self.check(desk, "all 5", "16")
        self.refused_and_as_before(TooMany, desk, "all 5")

    def test_no_number(self):
        desk = self.begin("ways 2 3", "all 5 0:1", "some 6 1:1", "drop 0")
        for row in ("drop 0", "drop 2", "drop 3", "drop 99", "drop 999999"):
            self.refused_and_as_before(NoNumber, desk, row)
        self.check(desk, "drop 1", "ok")
        self.refused_and_as_before(NoNumber, desk, "drop 1")
        self.check(desk, "all 5", "2")

    def test_no_place(self):
        desk = self.begin("ways 2 3", "all 5 0:1 1:1", "choose 0 1")
        for row in ("choose 0 0", "choose 0 1", "choose 0 9", "choose 2 0", "choose 2 9", "choose 999999 0", "means 0",
                    "means 2", "means 10", "means 999999", "let 1", "let 2", "let 10", "let 999999"):
            self.refused_and_as_before(NoPlace, desk, row)
        self.check(desk, "let 0", "ok")
        for row in ("let 0", "let 1", "choose 2 0"):
            self.refused_and_as_before(NoPlace, desk, row)
        desk = self.begin("ways")
        for row in ("choose 0 0", "means 0", "let 0"):
            self.refused_and_as_before(NoPlace, desk, row)

    def test_no_way(self):
        desk = self.begin("ways 2 3", "all 5 0:1 1:1")
        for row in ("choose 0 2", "choose 0 3", "choose 1 3", "choose 1 4", "choose 1 999999"):
            self.refused_and_as_before(NoWay, desk, row)
        self.check(desk, "choose 0 1", "ok")
        self.check(desk, "choose 1 2", "ok")
        self.check(desk, "finish", "1 2")


if __name__ == "__main__":
    unittest.main()
