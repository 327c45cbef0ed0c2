"""What several tests need: odd things, things with one spot changed, drawn things, and checks."""

import copy
import itertools
import time
import unittest
from contextlib import contextmanager
from fractions import Fraction

BIG = 10 ** 19 + 7

# Nothing here is a whole number of few figures or a tuple, so none of it fits any spot.
ODD_THINGS = [
    True, False, None, "", "0", "1", "all ", "Some", BIG, -BIG, 10 ** 59, -1,
    [], [0], [1], {}, {0: 1}, {"all": 1}, [[[[[[[[]]]]]]]], {1: {2: {3: [None]}}},
]

# No sheet, and no choosing of anything.
OTHER_THINGS = ODD_THINGS + [
    0, 1, 7, "all", (None,), ((),), ((((((((),),),),),),),), ("",), (True,), ({},), ([],), (-1,), (BIG,),
]

SHEET = (
    (2, 1, 3),
    (
        ("all", 1, ((0, (1,)), (2, (0, 2)))),
        ("some", 10, ((0, (0,)), (2, (2,)))),
        ("all", 40, ((1, (0,)),)),
    ),
)

EMPTY = ((), ())

NO_SHEETS = OTHER_THINGS + [
    (), (((2,), ()),), [(2,), ()], ([2], ()), ((2,), []), ((2, 5), ()), ((True,), ()), ((2,), (("all", 100, ()),)),
    ((2,) * 11, ()), ((2, 2), ((0, 1, 5),)), (2, ()), (2, ((0, 1, 5),)),
]

NO_WAYS = OTHER_THINGS + [
    (0,), (5,), (2, 5), (2,) * 11, [2, 3], (2, True), (2, None), (2, "3"), ((2, 3),), (2, [3]), "23",
]

NO_WEBS = OTHER_THINGS + [
    (), (2,), (2, ((0, 1, 5),), ()), [2, ()], (2, [(0, 1, 5)]), (2, ([0, 1, 5],)), (11, ()), (-1, ()), (True, ()),
    (2, ((0, 1, 0),)), (2, ((0, 1, 100),)), (2, ((1, 0, 5),)), (2, ((0, 2, 5),)),
    (2, ((0, 1, 5), (0, 1, 6))), ((2,), ()),
]

# A row of no numbers makes a board, so this one of the other things is none here.
NO_BOARDS = [thing for thing in OTHER_THINGS if thing != ((),)] + [
    ((1, 2), (3,)), ((), (1,)), ((1,), ()), ((1,),) * 9, ((1,) * 11,), ((10,),), ((-10,),), [(1, 2)], ([1, 2],),
    ((True,),), ((1, None),), (("1",),), ((1, 2), None), (1, 2), ((1, (2,)),), ((1, [2]),), ((BIG,),), ((-BIG,),),
    {0: (1, 2)}, "12",
]

NO_BOOKS = OTHER_THINGS + [
    (), (2,), (2, ((0, 1),), ()), [2, ()], (2, [(0, 1)]), (2, ([0, 1],)), (0, ()), (11, ()), (-1, ()), (True, ()),
    (2, ((),)), (2, ((0,), ())), (2, ((1, 0),)), (2, ((0, 0),)), (2, ((2,),)), (2, ((-1,),)), (2, (0, 1)), (2, 0),
    (2, ((0,),) * 17), ((2,), ()), (2, ((0, 1, 5),)), (2, (("0",),)), (2, ((True,),)), (2, {0: (0,)}), "20",
]

# Noughts and ones stand at many spots, so truths would pass there for numbers.
BOARD = ((1, 0, -2), (3, 1, 1), (0, -9, 9))

NO_BOUNDS = ODD_THINGS + [0, 100, 101, -2, "2", (), (2,), [2], {2: 2}]

# None of these is signs for BOARD, begun or whole.
NO_SIGNS = [thing for thing in OTHER_THINGS if thing != (-1,)] + [
    (0,), (2,), (-2,), (1, 0), (1, 1, 0), (1, -1, 2), (1, 1, 1, 1), (-1, -1, -1, -1), [1], [1, 1, 1], (1, True),
    (False,), (True, 1, 1), (1, None), (1, "1"), (1, [1]), (1, (1,)), (1, {}), (BIG, 1), (1, -BIG),
    "111", {0: 1}, ((1, 1, 1),),
]

# All signs that texts have, and how a number and a part are written, as patterns.
SIGNS = [chr(code) for code in range(32, 127) if chr(code) != "%"] + ["\t", "\n"]
NUMBER = "(?:0|[1-9][0-9]{0,5})"
PART = f"{NUMBER}:(?:{NUMBER}(?:,{NUMBER})*)?"


def spots(thing, path=()):
    """The paths to all things within nested tuples, the empty one to the whole first."""
    found = [path]
    if isinstance(thing, tuple):
        for at, inner in enumerate(thing):
            found += spots(inner, path + (at,))
    return found


def at_spot(thing, path):
    """What stands at the path."""
    for at in path:
        thing = thing[at]
    return thing


def with_spot(thing, path, new):
    """The thing with the new one at the path."""
    if not path:
        return new
    at = path[0]
    return thing[:at] + (with_spot(thing[at], path[1:], new),) + thing[at + 1:]


def all_choosings(sheet):
    return list(itertools.product(*[range(many) for many in sheet[0]]))


def pair(fraction):
    """A Fraction as the program tells it."""
    return (fraction.numerator, fraction.denominator)


def mean_of_all(numbers):
    """The mean of some numbers, as the program tells it."""
    numbers = list(numbers)
    return pair(Fraction(sum(numbers), len(numbers)))


def with_one_sign_off(text):
    """The text with one sign more, fewer or another one at each spot."""
    for spot in range(len(text) + 1):
        yield text[:spot] + text[spot + 1:]
        for sign in SIGNS:
            yield text[:spot] + sign + text[spot:]
            yield text[:spot] + sign + text[spot + 1:]


class Draw:
    """Numbers that look drawn but are the same on each run."""

    def __init__(self, seed):
        self.state = seed

    def below(self, many):
        self.state = (self.state * 6364136223846793005 + 1442695040888963407) % 2 ** 64
        return (self.state >> 33) % many

    def within(self, low, high):
        return low + self.below(high - low + 1)

    def some(self, many):
        """Some of the numbers below, rising, perhaps none, perhaps all."""
        return tuple(number for number in range(many) if self.below(2))

    def shuffled(self, things):
        left, order = list(things), []
        while left:
            order.append(left.pop(self.below(len(left))))
        return tuple(order)


def drawn_wish(draw, ways, most_parts=10):
    places = [place for place in range(len(ways)) if draw.below(2)][:most_parts]
    parts = tuple((place, draw.some(ways[place])) for place in places)
    return (("all", "some")[draw.below(2)], draw.within(0, 99), parts)


def drawn_sheet(draw, most_places=4, most_wishes=6):
    ways = tuple(draw.within(1, 4) for place in range(draw.within(0, most_places)))
    return (ways, tuple(drawn_wish(draw, ways) for wish in range(draw.within(0, most_wishes))))


def great_sheet(seed):
    """A sheet of ten places of four ways, with sixteen wishes."""
    draw = Draw(seed)
    ways = (4,) * 10
    return (ways, tuple(drawn_wish(draw, ways) for wish in range(16)))


def drawn_choosing(draw, ways):
    return tuple(draw.below(many) for many in ways)


def drawn_ties(draw, n, most_weight=99):
    pairs = [one for one in itertools.combinations(range(n), 2) if draw.below(3)]
    return tuple((i, j, draw.within(1, most_weight)) for i, j in pairs)


def drawn_web(draw, most_places=6, most_weight=99):
    n = draw.within(0, most_places)
    return (n, drawn_ties(draw, n, most_weight))


def full_web(n, weight=1):
    """The web with all ties."""
    return (n, tuple((i, j, weight) for i, j in itertools.combinations(range(n), 2)))


def great_webs(seed):
    """Webs of ten places: some drawn ones, with all ties, without ties."""
    draw = Draw(seed)
    return [(10, drawn_ties(draw, 10)) for turn in range(4)] + [full_web(10), full_web(10, 99), (10, ())]


def drawn_book(draw, most_places=4, most_sets=6):
    n = draw.within(1, most_places)
    sets = [draw.some(n) or (draw.below(n),) for one in range(draw.within(0, most_sets))]
    return (n, tuple(sets))


def great_books(seed):
    """Books of ten places and sixteen sets: some drawn ones, of small sets, of one place each, of all places."""
    draw = Draw(seed)
    drawn = [(10, tuple(draw.some(10) or (0,) for one in range(16))) for turn in range(2)]
    small = [(10, tuple(tuple(sorted({draw.below(10), draw.below(10)})) for one in range(16))) for turn in range(2)]
    ones = (10, tuple((one % 10,) for one in range(16)))
    return drawn + small + [ones, (10, (tuple(range(10)),) * 16)]


def is_missed(one, draws):
    return not set(one) & set(draws)


def columns_of(board):
    return len(board[0]) if board else 0


def all_signs(board):
    return list(itertools.product((1, -1), repeat=columns_of(board)))


def signs_on(board, begun):
    return [signs for signs in all_signs(board) if signs[:len(begun)] == begun]


def begun_signs(board):
    return sorted({signs[:many] for signs in all_signs(board) for many in range(len(signs) + 1)})


def row_sums(board, signs):
    return [sum(number * sign for number, sign in zip(row, signs)) for row in board]


def broken_by(board, bound, signs):
    return len([one for one in row_sums(board, signs) if one >= bound or -one >= bound])


def drawn_board(draw, rows, columns):
    return tuple(tuple(draw.within(-9, 9) for column in range(columns)) for row in range(rows))


def drawn_boards(seed, many=30, most_columns=5):
    draw = Draw(seed)
    boards = [drawn_board(draw, draw.within(0, 8), draw.within(0, most_columns)) for turn in range(many)]
    return [BOARD, (), ((),), ((),) * 8, ((0, 0),), ((9, -9),) * 8] + boards


def great_boards(seed):
    draw = Draw(seed)
    return [drawn_board(draw, 8, 10) for turn in range(4)] + [((9,) * 10,) * 8, ((0,) * 10,) * 8]


class Unchanged(unittest.TestCase):
    def told(self, function, *things):
        """What the function tells, and that the things are as before."""
        before = copy.deepcopy(things)
        try:
            return function(*things)
        finally:
            self.assertEqual(repr(things), repr(before))

    def refused(self, refusal, function, *things):
        with self.assertRaises(refusal, msg=repr(things)) as caught:
            self.told(function, *things)
        self.assertIs(type(caught.exception), refusal)

    def check_fraction(self, fraction):
        """That it is a fraction in lowest terms, of whole numbers."""
        self.assertIs(type(fraction), tuple)
        self.assertEqual([type(number) for number in fraction], [int, int])
        self.assertGreaterEqual(fraction[1], 1)
        self.assertEqual(fraction, pair(Fraction(*fraction)))

    def check_numbers(self, numbers):
        """That it is a tuple of whole numbers, truths being none."""
        self.assertIs(type(numbers), tuple)
        self.assertLessEqual({type(number) for number in numbers}, {int})

    @contextmanager
    def within_short(self, seconds=2):
        """That what is done takes no more of the processor's time."""
        begin = time.process_time()
        yield
        self.assertLess(time.process_time() - begin, seconds)
