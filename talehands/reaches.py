"""All standings of a book that are reached, gone through from the first one on."""

from talehands.books import book_hands
from talehands.errors import TooMany
from talehands.places import first_places
from talehands.rooms import check_rooms

MOST_STANDINGS = 3000


class Work:
    """A book put to work: the numbers of its hands, by their names, and the rooms."""

    def __init__(self, book, rooms):
        self.numbers = {hand: number for number, hand in enumerate(book_hands(book))}
        self.rooms = rooms


class Reached:
    """A standing that is reached.

    places are those of all hands; back and deed tell from which standing and by which deed it was first come
    to, None both of the first one; onward lists the deeds that can go on.
    """

    def __init__(self, places, back, deed):
        self.places = places
        self.back = back
        self.deed = deed
        self.onward = []


def all_reached(book, rooms):
    """The list of all standings reached, those of fewer deeds ahead, each by the fewest; or NoRooms, TooMany."""
    check_rooms(rooms)
    work = Work(book, rooms)
    first = first_places(book)
    reached = [Reached(first, None, None)]
    known = {first: True}
    at = 0
    while at < len(reached):
        now = reached[at]
        for deed, places in steps_from(work, now.places):
            now.onward.append(deed)
            if places not in known:
                known[places] = True
                reached.append(Reached(places, now, deed))
        if len(reached) > MOST_STANDINGS:
            raise TooMany("the book reaches more than 3000 standings")
        at += 1
    return reached


def steps_from(work, places):
    """The list of (deed, places behind it) of all deeds that can go on where the hands stand at these places."""
    found = []
    for number, place in enumerate(places):
        for deed, behind in place.steps.items():
            if can_go_on(work, places, deed):
                found.append((deed, places[:number] + (behind,) + places[number + 1:]))
    return found


def can_go_on(work, places, deed):
    """Whether the deed, a step from the place of its hand, can be done at these places, within the rooms."""
    kind, giver, taker, word = deed
    sent = places[work.numbers[giver]].sent.get(taker, ())
    taken = places[work.numbers[taker]].taken.get(giver, 0)
    if kind == "take":
        return sent[taken:taken + 1] == (word,)
    return work.rooms is None or len(sent) - taken < work.rooms


def standing_at(places):
    """The standing of the hands at these places."""
    return tuple([place.deeds for place in places])


def is_whole_at(places):
    """Whether the standing of the hands at these places is whole."""
    return all([place.ended != 0 for place in places]) and letters_under_way(places) == 0


def letters_under_way(places):
    """How many letters are under way where the hands stand at these places."""
    sent = [len(words) for place in places for words in place.sent.values()]
    taken = [many for place in places for many in place.taken.values()]
    return sum(sent) - sum(taken)


def run_to(reached):
    """A run of the fewest deeds to the standing, within the rooms in which it was reached."""
    deeds = []
    now = reached
    while now.back is not None:
        deeds.append(now.deed)
        now = now.back
    return tuple(deeds[::-1])
