"""Runs of a book behind which the hands stand still."""

from talehands.reaches import all_reached, is_whole_at, run_to, standing_at


def stuck(book, rooms):
    """("moves", table), or ("stuck", run) with the fewest deeds, or NoRooms, TooMany."""
    reached = all_reached(book, rooms)
    for one in reached:
        if not one.onward and not is_whole_at(one.places):
            return ("stuck", run_to(one))
    return ("moves", tuple(sorted([moves_row(one) for one in reached])))


def moves_row(reached):
    """The standing, and the least deed that can go on behind it, None where none can."""
    return (standing_at(reached.places), min(reached.onward, default=None))
