"""What each hand sees of a row."""

from talehands.deeds import hand_of
from talehands.lines import can_go


def hands_of(row):
    """All X and Y of the row's deeds, rising."""
    return tuple(sorted({hand for deed in row for hand in deed[1:3]}))


def view(row, hand):
    """The hand's own deeds of the row, in their order."""
    return tuple([deed for deed in row if hand_of(deed) == hand])


def parted_hand(row, other):
    """The least hand whose views of the two rows aren't the same, None where there is none."""
    for hand in hands_of(row + other):
        if view(row, hand) != view(other, hand):
            return hand
    return None


def alike(row, other):
    """Whether both rows can go and each hand's views of them are the same."""
    return can_go(row) and can_go(other) and parted_hand(row, other) is None
