"""Letters under way, rows that can go, and stories.

Lines are a dict: by (X, Y) the list of the words under way from X to Y, the one sent first ahead.
"""

from talehands.deeds import is_deed
from talehands.errors import NoRow


def can_be_done(lines, deed):
    """Whether the deed can be done where these lines are under way."""
    kind, giver, taker, word = deed
    return kind == "send" or lines.get((giver, taker), [])[:1] == [word]


def do_deed(lines, deed):
    """Change the lines by the deed, which can be done."""
    kind, giver, taker, word = deed
    words = lines.setdefault((giver, taker), [])
    if kind == "send":
        words.append(word)
    else:
        words.pop(0)


def lines_behind(row):
    """The lines behind the row, or NoRow (its number None where the thing is no tuple)."""
    if not isinstance(row, tuple):
        raise NoRow(None)
    lines = {}
    for number, deed in enumerate(row):
        if not is_deed(deed) or not can_be_done(lines, deed):
            raise NoRow(number)
        do_deed(lines, deed)
    return lines


def under_way(row):
    """The tuple of (X, Y, words), rising, of all that is under way behind the row, or NoRow."""
    lines = lines_behind(row)
    return tuple([(giver, taker, tuple(words)) for (giver, taker), words in sorted(lines.items()) if words])


def can_go(thing):
    """Whether the thing is a row that can go."""
    try:
        lines_behind(thing)
    except NoRow:
        return False
    return True


def is_story(thing):
    """Whether the thing is a row that can go, behind which nothing is under way."""
    return can_go(thing) and under_way(thing) == ()
