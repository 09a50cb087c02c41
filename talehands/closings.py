"""Books closed up: with all that their hands do unasked."""

from talehands.books import MOST_STORIES, MOST_STORY_DEEDS
from talehands.errors import TooMany
from talehands.unasked import all_unasked


def closed_up(book):
    """The book with all its unasked stories, too, or TooMany."""
    stories = tuple(sorted(book + all_unasked(book, None)))
    if len(stories) > MOST_STORIES:
        raise TooMany("more than forty stories close the book")
    if max([len(story) for story in stories]) > MOST_STORY_DEEDS:
        raise TooMany("a story of more than 32 deeds closes the book")
    return stories
