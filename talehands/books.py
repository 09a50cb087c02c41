"""Books of stories, made of rows or of a plot."""

from talehands.errors import NoBook
from talehands.lines import is_story
from talehands.orders import least_row
from talehands.plots import plot_rows
from talehands.views import hands_of

MOST_ROWS_HANDED_IN = 200
MOST_STORIES = 40
MOST_STORY_DEEDS = 32
MOST_HANDS = 5


def book_of(rows):
    """The book of the tuple of stories, or NoBook."""
    if not isinstance(rows, tuple) or not 1 <= len(rows) <= MOST_ROWS_HANDED_IN:
        raise NoBook(None)
    for number, row in enumerate(rows):
        if not is_book_story(row):
            raise NoBook(number)
    book = tuple(sorted({least_row(row) for row in rows}))
    if len(book) > MOST_STORIES or len(book_hands(book)) > MOST_HANDS:
        raise NoBook(None)
    return book


def is_book_story(thing):
    """Whether the thing is a story no longer than those of books are."""
    return isinstance(thing, tuple) and len(thing) <= MOST_STORY_DEEDS and is_story(thing)


def book_by(plot):
    """The book of all rows of the plot, or NoPlot, TooMany, NoBook."""
    return book_of(tuple(plot_rows(plot)))


def book_hands(book):
    """The hands of the book's stories, rising."""
    return tuple(sorted({hand for story in book for hand in hands_of(story)}))


def is_book(thing):
    """Whether the thing is a book."""
    try:
        # What no book is made of is refused ahead of being held against anything.
        return book_of(thing) == thing
    except NoBook:
        return False
