"""How fractions and sheets are written, which texts are read, and which refusals the others meet."""

import re
import unittest

from meanchoice.errors import NoSheet, NoText
from meanchoice.sheets import is_sheet
from meanchoice.texts import read_sheet, show_fraction, show_sheet
from things import (
    BIG, EMPTY, NO_SHEETS, NUMBER, PART, SHEET, Draw, Unchanged, drawn_sheet, great_sheet, with_one_sign_off,
)

WISH = f"(?:all|some) {NUMBER}(?: {PART})*"
TEXT = re.compile(f"WAYS(?: {NUMBER})*(?:; {WISH})*")

# A sheet whose text has each kind of sign next to each other one.
MIXED = (
    (2, 4, 1),
    (("all", 0, ((0, ()), (1, (0, 1, 3)))), ("some", 10, ()), ("all", 99, ((2, (0,)),)), ("some", 7, ((1, ()),))),
)
MIXED_TEXT = "WAYS 2 4 1; all 0 0: 1:0,1,3; some 10; all 99 2:0; some 7 1:"

# Texts that are none by their blanks.
BLANKS_ASTRAY = [
    "", " ", " WAYS", "WAYS ", "WAYS  2", "WAYS 2 ", " WAYS 2", "WAYS 2 ; all 5", "WAYS 2;all 5", "WAYS 2;  all 5",
    "WAYS 2; all  5", "WAYS 2; all 5 ", "WAYS 2; all 5  0:1", "WAYS 2; all 5 0: 1", "WAYS 2; all 5 0 :1",
    "WAYS 2; all 5 0:0, 1", "WAYS 2; all 5 0:0 ,1", "WAYS ;all 5", "WAYS;",
]

# Texts that are none by their words and signs.
WORDS_ASTRAY = [
    "ways 2", "Ways 2", "WAY 2", "WAYSS 2", "2", "2 3", "WAYS2", "WAYS x", "WAYS 2,3", "WAYS 2:", "x", "WAYS 2; any 5",
    "WAYS 2; ALL 5", "WAYS 2; All 5", "WAYS 2; 5", "WAYS 2; all", "WAYS 2; some", "WAYS 2; all x", "WAYS 2; all 0:1",
    "WAYS 2; all 5 0", "WAYS 2; all 5 1", "WAYS 2; all 5 :", "WAYS 2; all 5 :1", "WAYS 2; all 5 0:1:",
    "WAYS 2; all 5 0::1", "WAYS 2; all 5 0:,", "WAYS 2; all 5 0:1,", "WAYS 2; all 5 0:,1", "WAYS 2; all 5 0:0,,1",
    "WAYS 2; all 5 0:x", "WAYS 2; all 5 x:1", "WAYS 2; all 5; ", "WAYS 2;", "WAYS 2; ", "WAYS 2;; all 5", "; all 5",
    "WAYS 2; all 5;", "all 5", "WAYS 2; WAYS 2", "WAYS 2 all 5", "WAYS 2, all 5", "WAYS 2; all;5", "WAYS 2. all 5",
    "WAYS 2; all 5 6", "WAYS 2; all 5 all 6",
]

# Words that are no numbers.
NO_NUMBERS = [
    "00", "01", "05", "000", "-0", "+0", "-1", "+1", "1.0", "1/1", "1_0", "1e1", "0x1", "1234567", "0000001",
    "1000000", "9999999", "0" * 7, "1" * 60, "1" * 4999, "0" * 5000, "1,", "one", "'1'", "\u0661", "\u00b2", "\uff11",
    "1\t", "\n1",
]

# Texts whose numbers make no sheet.
NO_SHEET_TEXTS = [
    "WAYS 0", "WAYS 5", "WAYS 2 0 2", "WAYS 2 5", "WAYS" + " 2" * 11, "WAYS" + " 2" * 50, "WAYS 10", "WAYS 2; all 100",
    "WAYS 2; some 999999", "WAYS 2; all 5 1:0", "WAYS 2; all 5 1:", "WAYS; all 5 0:", "WAYS 2; all 5 0:2",
    "WAYS 2 3; all 5 0:2", "WAYS 2 3; all 5 1:3", "WAYS 2; all 5 0:1,0", "WAYS 2; all 5 0:1,1",
    "WAYS 2 3; all 5 1: 0:", "WAYS 2 3; all 5 0:1 0:1", "WAYS 2 3; all 5 1:2 1:", "WAYS 2; all 5; all 5 9:",
    "WAYS" + "; all 5" * 17, "WAYS 2" + "; some 5 0:1" * 17, "WAYS" + "; all 5" * 500, "WAYS 5" + "; all 5" * 17,
]


def read_by_rule(text):
    """What is written, by another road: what is found between the signs, or None where it is no such text."""
    if not TEXT.fullmatch(text):
        return None
    head, *rest = text.split(";")
    wishes = []
    for wish in rest:
        kind, weight = re.match(" ([a-z]+) ([0-9]+)", wish).groups()
        parts = re.findall("([0-9]+):([0-9,]*)", wish)
        some_of = [(int(place), tuple(map(int, re.findall("[0-9]+", some)))) for place, some in parts]
        wishes.append((kind, int(weight), tuple(some_of)))
    return (tuple(map(int, re.findall("[0-9]+", head))), tuple(wishes))


class ShowFraction(Unchanged):
    def check(self, fraction, wanted):
        told = self.told(show_fraction, fraction)
        self.assertIs(type(told), str)
        self.assertEqual(told, wanted)

    def test_whole_ones(self):
        self.check((0, 1), "0")
        self.check((1, 1), "1")
        self.check((-1, 1), "-1")
        self.check((1584, 1), "1584")
        self.check((-20, 1), "-20")

    def test_others(self):
        self.check((1, 2), "1/2")
        self.check((-1, 2), "-1/2")
        self.check((19, 3), "19/3")
        self.check((-100, 99), "-100/99")
        self.check((1, 10), "1/10")

    def test_sixty_figures_and_more(self):
        many, other = 10 ** 60 - 1, 10 ** 59 + 1
        self.check((many, 1), "9" * 60)
        self.check((-many, 1), "-" + "9" * 60)
        self.check((other, many - 1), "1" + "0" * 58 + "1/" + "9" * 59 + "8")
        self.check((-1, 10 ** 59), "-1/1" + "0" * 59)
        self.check((1, 10 ** 200), "1/1" + "0" * 200)


class BothWays(Unchanged):
    def check(self, sheet, text):
        shown = self.told(show_sheet, sheet)
        self.assertIs(type(shown), str)
        self.assertEqual(shown, text)
        told = self.told(read_sheet, text)
        self.assertIs(is_sheet(told), True)
        self.assertEqual(told, sheet)
        self.assertEqual(read_by_rule(text), sheet)

    def check_both(self, sheet):
        self.check(sheet, show_sheet(sheet))

    def test_ordinary_ones(self):
        self.check(MIXED, MIXED_TEXT)
        self.check(SHEET, "WAYS 2 1 3; all 1 0:1 2:0,2; some 10 0:0 2:2; all 40 1:0")

    def test_no_places_no_wishes(self):
        self.check(EMPTY, "WAYS")
        self.check(((), (("all", 7, ()), ("some", 0, ()))), "WAYS; all 7; some 0")
        self.check(((2, 3), ()), "WAYS 2 3")
        self.check(((1,), ()), "WAYS 1")

    def test_no_parts_and_parts_without_ways(self):
        self.check(((2, 3), (("all", 5, ()),)), "WAYS 2 3; all 5")
        self.check(((2, 3), (("some", 5, ((0, ()), (1, ()))),)), "WAYS 2 3; some 5 0: 1:")
        self.check(((4,), (("all", 5, ((0, (0, 1, 2, 3)),)),)), "WAYS 4; all 5 0:0,1,2,3")

    def test_ten_places_sixteen_wishes(self):
        self.check(((4,) * 10, ()), "WAYS 4 4 4 4 4 4 4 4 4 4")
        self.check(((4,) * 10, (("some", 99, ((9, (3,)),)),) * 16), "WAYS" + " 4" * 10 + "; some 99 9:3" * 16)
        for seed in range(220, 225):
            self.check_both(great_sheet(seed))

    def test_drawn_ones(self):
        draw = Draw(225)
        for turn in range(200):
            self.check_both(drawn_sheet(draw, 10, 16))

    def test_each_is_a_new_one(self):
        one, other = read_sheet(MIXED_TEXT), read_sheet(MIXED_TEXT)
        self.assertIsNot(one, other)
        self.assertIsNot(one[0], other[0])
        self.assertIsNot(one[1][0], other[1][0])


class Reading(Unchanged):
    def check(self, text):
        """By the rule: the sheet, or the refusal that is due."""
        wanted = read_by_rule(text)
        if wanted is None:
            self.refused(NoText, read_sheet, text)
        elif is_sheet(wanted):
            self.assertEqual(self.told(read_sheet, text), wanted, text)
        else:
            self.refused(NoSheet, read_sheet, text)
        return wanted

    def no_text(self, text):
        self.assertIsNone(read_by_rule(text), text)
        self.refused(NoText, read_sheet, text)

    def no_sheet(self, text):
        self.assertIs(is_sheet(read_by_rule(text)), False, text)
        self.refused(NoSheet, read_sheet, text)

    def test_one_sign_more_or_fewer_or_another_one(self):
        for text in (MIXED_TEXT, "WAYS", "WAYS 2", "WAYS; all 7", show_sheet(SHEET)):
            for changed in with_one_sign_off(text):
                self.check(changed)

    def test_two_signs_changed_places(self):
        for spot in range(len(MIXED_TEXT) - 1):
            one, other = MIXED_TEXT[spot:spot + 2]
            self.check(MIXED_TEXT[:spot] + other + one + MIXED_TEXT[spot + 2:])

    def test_begun_and_cut_texts(self):
        for spot in range(len(MIXED_TEXT)):
            self.check(MIXED_TEXT[:spot])
            self.check(MIXED_TEXT[spot:])

    def test_blanks(self):
        for spot in range(len(MIXED_TEXT) + 1):
            self.no_text(MIXED_TEXT[:spot] + "  " + MIXED_TEXT[spot:])
        for text in BLANKS_ASTRAY:
            self.no_text(text)

    def test_tabs_and_line_ends(self):
        for sign in "\t\n":
            for spot in range(len(MIXED_TEXT) + 1):
                self.no_text(MIXED_TEXT[:spot] + sign + MIXED_TEXT[spot:])
            self.no_text(MIXED_TEXT.replace(" ", sign))
            self.no_text(sign)

    def test_words(self):
        for text in WORDS_ASTRAY:
            self.no_text(text)

    def test_numbers(self):
        for shape in ("WAYS {}", "WAYS 2 {}", "WAYS {} 2", "WAYS 2; all {}", "WAYS 2; some {} 0:1", "WAYS 2; all 5 {}:",
                      "WAYS 2; all 5 {}:1", "WAYS 2; all 5 0:{}", "WAYS 2; all 5 0:{},1", "WAYS 2; all 5 0:0,{}"):
            for number in NO_NUMBERS:
                self.no_text(shape.format(number))
            for number in ("999999", "100000", "123456", "99999", "100"):
                self.no_sheet(shape.format(number))
            for number in ("0", "1", "2", "4", "5", "99"):
                self.assertIsNotNone(self.check(shape.format(number)))

    def test_no_sheet(self):
        for text in NO_SHEET_TEXTS:
            self.no_sheet(text)

    def test_no_text_goes_ahead_of_no_sheet(self):
        for text in ("WAYS 5 x", "WAYS 0; all", "WAYS 5; all 5 ", "WAYS 2; all 100 0", "WAYS" + " 2" * 11 + ";",
                     "WAYS 2; all 5 9:9; some", "WAYS" + "; all 5" * 17 + ";", "WAYS 5 1234567"):
            self.no_text(text)

    def test_what_is_no_text_at_all(self):
        for thing in (None, True, 0, 7, BIG, (), ("WAYS",), ["WAYS", "2"], {}, SHEET):
            self.refused(NoText, read_sheet, thing)

    def test_long_texts_within_a_short_time(self):
        with self.within_short():
            self.refused(NoText, read_sheet, "WAYS " + "9" * 100000)
            self.refused(NoText, read_sheet, "WAYS 2; all 5 0:" + "1" * 100000)
            self.refused(NoSheet, read_sheet, "WAYS" + " 2" * 20000)


class Showing(Unchanged):
    def test_no_sheet(self):
        for thing in NO_SHEETS + ["WAYS 2", "WAYS"]:
            self.refused(NoSheet, show_sheet, thing)


if __name__ == "__main__":
    unittest.main()
