"""Runs of a book, and how its hands stand behind them."""

from talehands.books import book_hands
from talehands.lines import can_go
from talehands.machines import book_views
from talehands.places import places_at
from talehands.reaches import Work, all_reached, is_whole_at, standing_at, steps_from
from talehands.rooms import check_rooms, keeps
from talehands.views import hands_of, view


def is_run(book, rooms, thing):
    """Whether the thing is a run of the book within the rooms, or NoRooms."""
    check_rooms(rooms)
    if not can_go(thing) or not keeps(thing, rooms):
        return False
    return all([begins_one(view(thing, hand), book_views(book, hand)) for hand in hands_of(thing)])


def begins_one(deeds, views):
    """Whether the deeds are a beginning of one of the views."""
    return any([one[:len(deeds)] == deeds for one in views])


def standing_of(book, run):
    """The standing behind the run."""
    return tuple([view(run, hand) for hand in book_hands(book)])


def goes_on(book, rooms, standing):
    """The tuple of the deeds that can go on behind the standing, rising, or NoRooms."""
    check_rooms(rooms)
    steps = steps_from(Work(book, rooms), places_at(book, standing))
    return tuple(sorted([deed for deed, behind in steps]))


def is_whole_standing(book, standing):
    """Whether each view of the standing is one of the book's and nothing is under way behind it."""
    return is_whole_at(places_at(book, standing))


def standings(book, rooms):
    """The rising tuple of all standings reached within the rooms, or NoRooms, TooMany."""
    return tuple(sorted([standing_at(reached.places) for reached in all_reached(book, rooms)]))
