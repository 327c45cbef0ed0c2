"""What several tests hand in: odd things, and things with one spot changed."""

BIG = 10 ** 19 + 7

# Nothing here is a whole number of few figures or a tuple, so none of it fits any spot.
ODD_THINGS = [
    True, False, None, "", "0", "1", "all ", "Some", BIG, -BIG, 10 ** 59, -1,
    [], [0], [1], {}, {0: 1}, {"all": 1}, [[[[[[[[]]]]]]]], {1: {2: {3: [None]}}},
]

# No sheet, and no choosing of anything.
OTHER_THINGS = ODD_THINGS + [
    0, 1, 7, "all", (None,), ((),), ((((((((),),),),),),),), ("",), (True,), ({},), ([],), (-1,), (BIG,),
]


def spots(thing, path=()):
    """The paths to all things within nested tuples, the empty one to the whole first."""
    found = [path]
    if isinstance(thing, tuple):
        for at, inner in enumerate(thing):
            found += spots(inner, path + (at,))
    return found


def at_spot(thing, path):
    """What stands at the path."""
    for at in path:
        thing = thing[at]
    return thing


def with_spot(thing, path, new):
    """The thing with the new one at the path."""
    if not path:
        return new
    at = path[0]
    return thing[:at] + (with_spot(thing[at], path[1:], new),) + thing[at + 1:]
