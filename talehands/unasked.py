"""Stories that the hands of a book do though nobody asked for them."""

from talehands.orders import least_row
from talehands.places import first_story, stories_ended
from talehands.reaches import all_reached, is_whole_at, run_to, standing_at


def unasked(book, rooms):
    """("closed", table), or ("unasked", story, run, numbers): the least of the fewest deeds; or NoRooms, TooMany."""
    reached = all_reached(book, rooms)
    found = [one for one in reached if is_unasked(one.places)]
    if not found:
        return ("closed", tuple(sorted([closed_row(one.places) for one in reached])))
    # Standings of fewer deeds stand ahead, so the first one has the fewest.
    fewest = len(run_to(found[0]))
    told = [unasked_row(one) for one in found if len(run_to(one)) == fewest]
    story, run, numbers = min(told)
    return ("unasked", story, run, numbers)


def all_unasked(book, rooms):
    """The tuple of all unasked stories, rising, or NoRooms, TooMany."""
    found = [one for one in all_reached(book, rooms) if is_unasked(one.places)]
    return tuple(sorted([least_row(run_to(one)) for one in found]))


def is_unasked(places):
    """Whether the standing of the hands at these places is whole and no told story."""
    return stories_ended(places) == 0 and is_whole_at(places)


def closed_row(places):
    """The standing of the hands at these places, and the number of the story that it is, None where it isn't whole.

    Nothing is under way behind a story, so what is a story for each hand is whole.
    """
    stories = stories_ended(places)
    return (standing_at(places), None if stories == 0 else first_story(stories))


def unasked_row(reached):
    """The story that the standing is, a run to it, and for each hand the first story of which it has the view."""
    run = run_to(reached)
    return (least_row(run), run, tuple([first_story(place.ended) for place in reached.places]))
