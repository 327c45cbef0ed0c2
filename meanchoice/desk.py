"""A Desk: a Chooser that is spoken to in rows and answers in texts."""

from meanchoice.chooser import Chooser
from meanchoice.errors import NoRow
from meanchoice.texts import are_number_words, are_wish_words, numbers_of, show_fraction, wish_of

DONE = "ok"
NOTHING = "none"


def words_or_none(words):
    """The words with blanks between, or the word for none of them."""
    return " ".join(words) if words else NOTHING


def answer_drop(chooser, numbers):
    """Drop the wish of a number."""
    chooser.drop(numbers[0])
    return DONE


def answer_choose(chooser, numbers):
    """Choose a place in a way."""
    chooser.choose(numbers[0], numbers[1])
    return DONE


def answer_let(chooser, numbers):
    """Let a place go."""
    chooser.let(numbers[0])
    return DONE


def answer_mean(chooser, numbers):
    """Tell the mean."""
    return show_fraction(chooser.mean())


def answer_means(chooser, numbers):
    """Tell the means of a place."""
    return " ".join([show_fraction(one) for one in chooser.means(numbers[0])])


def answer_chosen(chooser, numbers):
    """Tell the places chosen and their ways."""
    return words_or_none([f"{place}:{way}" for place, way in sorted(chooser.chosen().items())])


def answer_finish(chooser, numbers):
    """Tell the ways of the choosing that comes of it."""
    return words_or_none([str(way) for way in chooser.finish()])


# For each first word of a row of numbers: how many numbers are behind it, and what answers it.
HOW_MANY = {"drop": 1, "choose": 2, "let": 1, "mean": 0, "means": 1, "chosen": 0, "finish": 0}
ANSWERS = {
    "drop": answer_drop,
    "choose": answer_choose,
    "let": answer_let,
    "mean": answer_mean,
    "means": answer_means,
    "chosen": answer_chosen,
    "finish": answer_finish,
}


def is_ways_row(words):
    """Whether the words tell ways to begin with."""
    return words[0] == "ways" and are_number_words(words[1:])


def is_number_row(words):
    """Whether the words are a known one and as many numbers as go with it."""
    if words[0] not in HOW_MANY or len(words) != 1 + HOW_MANY[words[0]]:
        return False
    return are_number_words(words[1:])


def answer_words(chooser, words):
    """What the Chooser answers to the words of a row other than of ways."""
    if are_wish_words(words):
        return str(chooser.put(wish_of(words)))
    if not is_number_row(words):
        raise NoRow("there is no such row")
    answer = ANSWERS[words[0]]
    return answer(chooser, numbers_of(words[1:]))


class Desk:
    """Keeps the Chooser that stands, None ahead of the first ways."""

    def __init__(self):
        self.chooser = None

    def say(self, row):
        """What is answered to the row."""
        if not isinstance(row, str):
            raise NoRow("this is no text")
        words = row.split(" ")
        if is_ways_row(words):
            self.chooser = Chooser(numbers_of(words[1:]))
            return DONE
        if self.chooser is None:
            raise NoRow("there are no ways yet")
        return answer_words(self.chooser, words)
