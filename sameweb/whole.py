"""Whole numbers, told from all else that may be handed in."""


def is_whole(thing):
    """Whether the thing is a whole number."""
    # The class itself is asked for: isinstance would take True and False, too.
    return type(thing) is int


def is_below(thing, limit):
    """Whether the thing is a whole number from 0 to the limit less 1."""
    return is_whole(thing) and 0 <= thing < limit
