"""Rows shown as texts, and read."""

from talehands.deeds import is_deed
from talehands.errors import NoText

NO_DEEDS = "-"
SIGNS = {"!": ("send",), "?": ("take",), ">": ("send", "take")}


def show_row(row):
    """The text of the row, as short as can be."""
    if len(row) == 0:
        return NO_DEEDS
    return " ".join(show_parts(row))


def show_parts(row):
    """The parts of the row's text; a sending and its taking right behind it are one part."""
    parts = []
    at = 0
    while at < len(row):
        kind, giver, taker, word = row[at]
        if kind == "take":
            parts.append(f"{taker}?{giver}:{word}")
        elif row[at + 1:at + 2] == (("take", giver, taker, word),):
            parts.append(f"{giver}>{taker}:{word}")
            at += 1
        else:
            parts.append(f"{giver}!{taker}:{word}")
        at += 1
    return parts


def read_row(text):
    """The row that the text tells, or NoText."""
    if not isinstance(text, str):
        raise NoText("what is no text tells no row")
    if text == NO_DEEDS:
        return ()
    deeds = []
    for part in text.split(" "):
        deeds += read_part(part)
    return tuple(deeds)


def read_part(part):
    """The list of one deed or two that a part without blanks tells, or NoText."""
    for sign in SIGNS:
        if sign in part:
            hand, found, behind = part.partition(sign)
            other, colon, word = behind.partition(":")
            return told_deeds(sign, hand, other, word)
    raise NoText("a part of a row has none of its signs")


def told_deeds(sign, hand, other, word):
    """The deeds that a part's sign tells of the hand named first, the other one and the word, or NoText."""
    giver, taker = (other, hand) if sign == "?" else (hand, other)
    deeds = [(kind, giver, taker, word) for kind in SIGNS[sign]]
    if not is_deed(deeds[0]):
        raise NoText("a part of a row has no two hands and a word")
    return deeds
