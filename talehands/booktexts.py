"""Books shown as texts, and read."""

from talehands.books import is_book
from talehands.errors import NoText
from talehands.rowtexts import read_row, show_row


def show_book(book):
    """The text of the book: its stories, each a row, with a line end between."""
    return "\n".join([show_row(story) for story in book])


def read_book(text):
    """The book of which just this is the text, or NoText."""
    if not isinstance(text, str):
        raise NoText("what is no text tells no book")
    rows = tuple([read_row(line) for line in text.split("\n")])
    if not is_book(rows) or show_book(rows) != text:
        raise NoText("no book is written so")
    return rows
