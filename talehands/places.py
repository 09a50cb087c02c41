"""Where the hands of a book stand in their views of it.

Some stories of a book are told as a whole number: its bit k, from 0, is set for story k.
"""

from talehands.books import book_hands
from talehands.views import view

# All bits of -1 are set.
ALL_STORIES = -1


class Place:
    """A beginning of a hand's views of a book.

    deeds are those of the beginning; sent tells by the other hand the tuple of words sent to it, taken by the
    other hand the number of letters taken from it; steps tell by the deeds that may come next the place behind
    each; begun are the stories of which the hand's view so begins, ended those of which this is its view.
    """

    def __init__(self, deeds, sent, taken):
        self.deeds = deeds
        self.sent = sent
        self.taken = taken
        self.steps = {}
        self.begun = 0
        self.ended = 0


def first_places(book):
    """The tuple of the places where the hands of the book, in order, stand at first."""
    return tuple([first_place(book, hand) for hand in book_hands(book)])


def first_place(book, hand):
    """The hand's place ahead of all deeds; its steps lead to all others."""
    first = Place((), {}, {})
    for number, story in enumerate(book):
        place = first
        place.begun += 1 << number
        for deed in view(story, hand):
            if deed not in place.steps:
                place.steps[deed] = new_place(place, deed)
            place = place.steps[deed]
            place.begun += 1 << number
        place.ended += 1 << number
    return first


def new_place(place, deed):
    """A place behind the deed, done at this place."""
    kind, giver, taker, word = deed
    sent = dict(place.sent)
    taken = dict(place.taken)
    if kind == "send":
        sent[taker] = sent.get(taker, ()) + (word,)
    else:
        taken[giver] = taken.get(giver, 0) + 1
    return Place(place.deeds + (deed,), sent, taken)


def places_at(book, standing):
    """The tuple of the places of all hands at the standing."""
    return tuple([place_at(first, deeds) for first, deeds in zip(first_places(book), standing)])


def place_at(first, deeds):
    """The place to which the deeds lead from the first one."""
    place = first
    for deed in deeds:
        place = place.steps[deed]
    return place


def stories_begun(places):
    """The stories that begin for each hand as its place tells."""
    return stories_in_each([place.begun for place in places])


def stories_ended(places):
    """The stories that are for each hand what its place tells: no two stories are so."""
    return stories_in_each([place.ended for place in places])


def stories_in_each(parts):
    """The stories that are in each of the parts of the book."""
    stories = ALL_STORIES
    for part in parts:
        stories = stories & part
    return stories


def has_story(stories, number):
    """Whether the story with the number is among the stories."""
    return (stories >> number) & 1 == 1


def first_story(stories):
    """The number of the first one of the stories, of which there is one."""
    number = 0
    while not has_story(stories, number):
        number += 1
    return number
