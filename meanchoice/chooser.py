"""A Chooser: wishes that come and go, and places that are chosen and let go, for ways that stay."""

from meanchoice.errors import NoNumber, NoPlace, NoWay, TooMany
from meanchoice.kinds import is_whole, is_within
from meanchoice.means import begun_numbers, mean_by_numbers, means_by_way, rounded_by, with_way
from meanchoice.sheets import MOST_WISHES, need_ways, need_wish


def wish_anew(wish):
    """The wish made of new tuples: what is told is not what was handed in."""
    kind, weight, parts = wish
    return (kind, weight, tuple([(place, tuple(list(some))) for place, some in parts]))


class Chooser:
    """Keeps the wishes that stand and the places that are chosen."""

    def __init__(self, ways):
        need_ways(ways)
        self.ways = ways
        # Wishes by their numbers; these only rise, so the dict has them in order.
        self.standing = {}
        self.next_number = 0
        self.picks = {}

    def put(self, wish):
        """Let the wish stand; its number is told."""
        need_wish(self.ways, wish)
        if len(self.standing) >= MOST_WISHES:
            raise TooMany("no more wishes can stand at once")
        number = self.next_number
        self.standing[number] = wish
        self.next_number += 1
        return number

    def drop(self, number):
        """Let the wish of this number go; its number comes no more."""
        if not is_whole(number) or number not in self.standing:
            raise NoNumber("no wish of this number stands")
        del self.standing[number]

    def need_free(self, place):
        """Refuse what is no place, or one that is chosen."""
        if not is_within(place, 0, len(self.ways) - 1) or place in self.picks:
            raise NoPlace("there is no such place, or it is chosen already")

    def choose(self, place, way):
        """Choose the place in this way."""
        self.need_free(place)
        if not is_within(way, 0, self.ways[place] - 1):
            raise NoWay("the place has no such way")
        self.picks[place] = way

    def let(self, place):
        """Let the chosen place go."""
        if not is_whole(place) or place not in self.picks:
            raise NoPlace("no such place is chosen")
        del self.picks[place]

    def wishes(self):
        """The wishes that stand, in the order of their numbers."""
        return list(self.standing.values())

    def numbers(self):
        """The numbers by which each choosing that agrees with the places chosen counts once, and no other one does."""
        told = begun_numbers(self.ways, ())
        for place, way in self.picks.items():
            told = with_way(told, place, way)
        return told

    def sheet(self):
        """The sheet of the wishes that stand."""
        return (tuple(list(self.ways)), tuple([wish_anew(wish) for wish in self.wishes()]))

    def chosen(self):
        """The places that are chosen, to their ways."""
        return dict(self.picks)

    def mean(self):
        """The mean of the worths of all choosings that agree with the places chosen."""
        return mean_by_numbers(self.wishes(), self.numbers())

    def means(self, place):
        """For each way of the place, which is not chosen, what the mean would be with it."""
        self.need_free(place)
        return means_by_way(self.wishes(), self.numbers(), place)

    def finish(self):
        """The choosing where the places that are not chosen take, one by one, the least way of greatest mean."""
        return rounded_by(self.wishes(), self.numbers())
