"""Rows that come of one another by deeds that change places."""

from talehands.deeds import hand_of
from talehands.lines import can_be_done, do_deed, lines_behind
from talehands.views import hands_of, parted_hand, view


def changed(row, other):
    """("changes", places) by which the first row becomes the other one, or ("parted", hand)."""
    lines_behind(row)
    lines_behind(other)
    hand = parted_hand(row, other)
    if hand is not None:
        return ("parted", hand)
    return ("changes", tuple(places_to(row, other)))


def places_to(row, other):
    """The places at which, in turn, neighbours of the row change, until it is the other one, alike to it.

    Each deed of the other row, from the first on, is brought down to its place. Its hand's earlier deeds
    and, where it is a taking, the sending stand below already, so the row can go all the while.
    """
    now = list(row)
    places = []
    for place, deed in enumerate(other):
        at = now.index(deed, place)
        places += list(range(at - 1, place - 1, -1))
        now.insert(place, now.pop(at))
    return places


def least_row(row):
    """The least of all rows that are alike to the row."""
    lines_behind(row)
    return least_behind((), {hand: view(row, hand) for hand in hands_of(row)})


def least_behind(begun, views):
    """The least row, behind the begun one, of all deeds of the views (by hand), each hand's in their order.

    The views are such that one can go. What can be done stays so until it is done, so the least deed
    that can be done next is always right.
    """
    lines = lines_behind(begun)
    left = {hand: list(deeds) for hand, deeds in views.items()}
    row = []
    while any(left.values()):
        deed = min([deeds[0] for deeds in left.values() if deeds and can_be_done(lines, deeds[0])])
        do_deed(lines, deed)
        left[hand_of(deed)].pop(0)
        row.append(deed)
    return tuple(row)
