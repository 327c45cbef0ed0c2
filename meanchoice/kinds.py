"""Tells of anything whether it is of a plain kind; no kind refuses or fails."""


def is_whole(thing):
    """Whether the thing is a whole number."""
    # To Python a truth is an int, too; here it is no number.
    return isinstance(thing, int) and not isinstance(thing, bool)


def is_within(thing, low, high):
    """Whether the thing is a whole number from low to high."""
    return is_whole(thing) and low <= thing <= high


def is_tuple_of(thing, many):
    """Whether the thing is a tuple of just so many things."""
    return isinstance(thing, tuple) and len(thing) == many


def are_rising(numbers):
    """Whether each number is greater than the one ahead."""
    return all([one < other for one, other in zip(numbers, numbers[1:])])


def are_rising_below(thing, many):
    """Whether the thing is a rising tuple, perhaps empty, of numbers from 0 to many - 1."""
    if not isinstance(thing, tuple):
        return False
    # Only whole numbers are compared: other things may have no order.
    return all([is_within(one, 0, many - 1) for one in thing]) and are_rising(thing)
