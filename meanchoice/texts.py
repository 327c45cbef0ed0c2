"""Texts: how fractions and sheets are written, and how sheets are read.

Within, words are what stands between single blanks.
"""

from meanchoice.errors import NoText
from meanchoice.sheets import KINDS, need_sheet

FIGURES = "0123456789"
MOST_FIGURES = 6
FIRST_WORD = "WAYS"


def show_fraction(fraction):
    """The fraction as A/B, a whole one as A."""
    a, b = fraction
    return str(a) if b == 1 else f"{a}/{b}"


def show_part(part):
    """The part of a wish as P:W,W,.."""
    place, some = part
    ways = ",".join([str(way) for way in some])
    return f"{place}:{ways}"


def show_wish(wish):
    """The wish as its kind, its weight and its parts."""
    kind, weight, parts = wish
    return " ".join([kind, str(weight)] + [show_part(part) for part in parts])


def show_sheet(sheet):
    """The sheet as a text that read_sheet reads."""
    need_sheet(sheet)
    ways, wishes = sheet
    head = " ".join([FIRST_WORD] + [str(many) for many in ways])
    return "; ".join([head] + [show_wish(wish) for wish in wishes])


def is_number_word(word):
    """Whether the word is a number: not too many figures, no 0 ahead of others."""
    if not 1 <= len(word) <= MOST_FIGURES or not all([sign in FIGURES for sign in word]):
        return False
    return word == "0" or not word.startswith("0")


def are_number_words(words):
    """Whether each of the words is a number."""
    return all([is_number_word(word) for word in words])


def numbers_of(words):
    """The numbers that the words are, a tuple."""
    return tuple([int(word) for word in words])


def way_words(text):
    """The words between the commas; none of an empty text."""
    return text.split(",") if text else []


def is_part_word(word):
    """Whether the word is a part P:W,W,.., perhaps without ways."""
    place, colon, some = word.partition(":")
    return colon == ":" and is_number_word(place) and are_number_words(way_words(some))


def part_of(word):
    """The part that the word is."""
    place, colon, some = word.partition(":")
    return (int(place), numbers_of(way_words(some)))


def are_wish_words(words):
    """Whether the words are a kind, a weight and parts."""
    if len(words) < 2 or words[0] not in KINDS or not is_number_word(words[1]):
        return False
    return all([is_part_word(word) for word in words[2:]])


def wish_of(words):
    """The wish that the words are; whether there is such a one for some ways isn't looked at."""
    return (words[0], int(words[1]), tuple([part_of(word) for word in words[2:]]))


def read_sheet(text):
    """The sheet that is written so."""
    if not isinstance(text, str):
        raise NoText("this is no text")
    head, *rest = [piece.split(" ") for piece in text.split("; ")]
    if head[0] != FIRST_WORD or not are_number_words(head[1:]) or not all([are_wish_words(words) for words in rest]):
        raise NoText("a sheet is not written so")
    sheet = (numbers_of(head[1:]), tuple([wish_of(words) for words in rest]))
    need_sheet(sheet)
    return sheet
