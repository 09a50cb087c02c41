"""Rows that are beginnings of other ones, and what is left then."""

from talehands.lines import can_go
from talehands.orders import least_behind
from talehands.views import hands_of, view


def is_beginning(row, other):
    """Whether both rows can go and each hand's view of the first is a beginning of its view of the other."""
    if not can_go(row) or not can_go(other):
        return False
    return all([left_of(row, other, hand) is not None for hand in hands_of(row)])


def rest(row, other):
    """The least row that, behind the first one, makes a row alike to the other; None where it is no beginning."""
    if not is_beginning(row, other):
        return None
    return least_behind(row, {hand: left_of(row, other, hand) for hand in hands_of(other)})


def left_of(row, other, hand):
    """What the hand sees of the other row behind all that it sees of the row, None where it sees otherwise."""
    begun = view(row, hand)
    whole = view(other, hand)
    if whole[:len(begun)] != begun:
        return None
    return whole[len(begun):]
