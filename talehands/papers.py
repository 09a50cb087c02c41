"""For each question the claim that is true, with the paper that shows it."""

from talehands.mends import mend
from talehands.openings import opened
from talehands.renamings import renamings
from talehands.rooms import run_within
from talehands.seen import seen
from talehands.strays import stray
from talehands.stucks import stuck
from talehands.unasked import unasked


def paper_goes(story, rooms):
    """Whether the story can be run within the rooms: (claim, paper), or NoRooms."""
    word, shown = run_within(story, rooms)
    return (("goes" if word == "row" else "goes not", story, rooms), shown)


def paper_strays(book, rooms):
    """Whether a run of the book strays: (claim, paper), or NoRooms, TooMany."""
    told = stray(book, rooms)
    if told[0] == "sound":
        return (("sound", book, rooms), told[1])
    word, run, hands = told
    return (("stray", book, rooms, run), hands)


def paper_stuck(book, rooms):
    """Whether the hands of the book come to stand still: (claim, paper), or NoRooms, TooMany."""
    word, shown = stuck(book, rooms)
    if word == "moves":
        return (("moves", book, rooms), shown)
    return (("stuck", book, rooms, shown), None)


def paper_unasked(book, rooms):
    """Whether the book has an unasked story: (claim, paper), or NoRooms, TooMany."""
    told = unasked(book, rooms)
    if told[0] == "closed":
        return (("closed", book, rooms), told[1])
    word, story, run, numbers = told
    return (("unasked", book, rooms, story), (run, numbers))


def paper_seen(book, other):
    """Whether the books are seen alike: (claim, paper)."""
    told = seen(book, other)
    if told[0] == "alike":
        return (("alike", book, other), None)
    word, hand, deeds = told
    return (("parted", book, other), (hand, deeds))


def paper_renamed(book, other):
    """How the book is renamed to the other one: (claim, paper), None where it can't be."""
    ways = renamings(book, other)
    return (("renamed", book, other), ways[0]) if ways else None


def paper_mends(book):
    """What mends the book: (claim, paper), None where it is exact; or TooMany."""
    told = mend(book)
    if told is None:
        return None
    leader, hands = told
    made = opened(book, leader, hands)
    # The opened book is exact, so both of these tell a table.
    return (("mends", book, leader, hands), (stray(made, None)[1], unasked(made, None)[1]))
