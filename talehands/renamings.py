"""Books with their hands named otherwise, and hands that are alike."""

from talehands.books import book_hands
from talehands.errors import NoNames
from talehands.orders import least_row
from talehands.words import is_name


def renamed(book, names):
    """The book with its hands named as the renaming tells, or NoNames."""
    if not is_renaming(book, names):
        raise NoNames("this is no renaming of the book")
    by_hand = dict(names)
    return tuple(sorted([renamed_story(story, by_hand) for story in book]))


def is_renaming(book, thing):
    """Whether the thing is a renaming of the book, of things of any kind."""
    if not isinstance(thing, tuple) or not all([is_pair_of_names(part) for part in thing]):
        return False
    if tuple([hand for hand, name in thing]) != book_hands(book):
        return False
    return len({name for hand, name in thing}) == len(thing)


def is_pair_of_names(thing):
    """Whether the thing is a tuple of two names."""
    return isinstance(thing, tuple) and len(thing) == 2 and is_name(thing[0]) and is_name(thing[1])


def renamed_story(story, by_hand):
    """The story, made least, with its hands named as is told by hand."""
    return least_row(tuple([(kind, by_hand[giver], by_hand[taker], word) for kind, giver, taker, word in story]))


def renamings(book, other):
    """The rising tuple of all renamings of the book that make the other one of it."""
    hands = book_hands(book)
    names = book_hands(other)
    if len(hands) != len(names) or len(book) != len(other):
        return ()
    every = [tuple(zip(hands, order)) for order in all_orders(names)]
    return tuple([one for one in every if makes(book, dict(one), other)])


def makes(book, by_hand, other):
    """Whether the book, its hands named as is told by hand, is the other one, which has as many stories.

    Unlike stories stay unlike, so it is enough that each becomes one of the other book.
    """
    for story in book:
        if renamed_story(story, by_hand) not in other:
            return False
    return True


def all_orders(names):
    """The list of all orders of the rising names, rising."""
    if len(names) == 0:
        return [()]
    found = []
    for first in names:
        others = [name for name in names if name != first]
        found += [(first,) + order for order in all_orders(others)]
    return found


def alike_hands(book):
    """The tuple of rising tuples, by their first, of the hands that renamings of the book to itself exchange."""
    ways = [dict(names) for names in renamings(book, book)]
    together = [tuple(sorted({by_hand[hand] for by_hand in ways})) for hand in book_hands(book)]
    return tuple(sorted(set(together)))
