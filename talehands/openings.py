"""Books opened: each story told ahead, by a leader to other hands."""

from talehands.books import book_hands
from talehands.errors import NoHand
from talehands.orders import least_row
from talehands.words import LETTERS, is_name


def opened(book, leader, hands):
    """The book in each story of which the leader first sends these hands the story's word, or NoHand."""
    check_opening(book, leader, hands)
    return tuple(sorted([opened_story(story, number, leader, hands) for number, story in enumerate(book)]))


def check_opening(book, leader, hands):
    """Refuse with NoHand a leader or hands, of any kind, by which the book can't be opened."""
    if not is_name(leader) or leader not in book_hands(book):
        raise NoHand("the leader is no hand of the book")
    if not isinstance(hands, tuple) or not all([is_name(hand) for hand in hands]):
        raise NoHand("the other hands are no tuple of names")
    if hands != tuple([hand for hand in book_hands(book) if hand in hands and hand != leader]):
        raise NoHand("the other hands aren't rising, or aren't other hands of the book")


def opened_story(story, number, leader, hands):
    """The story with this number, made least, behind the letters that tell it."""
    word = story_word(number)
    ahead = [(kind, leader, hand, word) for hand in hands for kind in ("send", "take")]
    return least_row(tuple(ahead) + story)


def story_word(number):
    """The word of two letters for the story with this number."""
    first, second = divmod(number, len(LETTERS))
    return LETTERS[first] + LETTERS[second]
