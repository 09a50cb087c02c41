"""Deeds, whose they are, and rows of them."""

from talehands.words import is_name

KINDS = ("send", "take")


def is_deed(thing):
    """Whether the thing is a deed (kind, X, Y, W)."""
    if not isinstance(thing, tuple) or len(thing) != 4:
        return False
    kind, giver, taker, word = thing
    # Only texts are held against the kinds: what else is equal to one isn't known.
    if not isinstance(kind, str) or kind not in KINDS:
        return False
    return is_name(giver) and is_name(taker) and is_name(word) and giver != taker


def is_row(thing):
    """Whether the thing is a tuple of deeds, which needn't go."""
    return isinstance(thing, tuple) and all([is_deed(part) for part in thing])


def hand_of(deed):
    """The hand whose deed it is: the giver's where it is sent, the taker's where it is taken."""
    return deed[1] if deed[0] == "send" else deed[2]
