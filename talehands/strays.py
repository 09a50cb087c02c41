"""Runs of a book that stray from all its stories."""

from talehands.books import book_hands
from talehands.places import first_story, has_story, stories_begun
from talehands.reaches import all_reached, run_to, standing_at


def stray(book, rooms):
    """("sound", table), or ("stray", run, hands) with the fewest deeds, or NoRooms, TooMany."""
    reached = all_reached(book, rooms)
    for one in reached:
        if stories_begun(one.places) == 0:
            return ("stray", run_to(one), parting_hands(book, one.places))
    return ("sound", tuple(sorted([sound_row(one.places) for one in reached])))


def sound_row(places):
    """The standing of the hands at these places, and the first story of which it is a beginning."""
    return (standing_at(places), first_story(stories_begun(places)))


def parting_hands(book, places):
    """The tuple of the least hand, for each story, for which the story doesn't begin as its place tells."""
    hands = book_hands(book)
    told = []
    for number in range(len(book)):
        parted = [hand for hand, place in zip(hands, places) if not has_story(place.begun, number)]
        told.append(parted[0])
    return tuple(told)
