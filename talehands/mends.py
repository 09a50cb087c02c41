"""The opening with the fewest hands that makes a book exact."""

from talehands.books import book_hands
from talehands.openings import opened
from talehands.places import stories_begun
from talehands.reaches import all_reached
from talehands.unasked import is_unasked


def mend(book):
    """None where the book is exact, else the (leader, hands) that mend it, the fewest and least; or TooMany."""
    if is_exact(book):
        return None
    for leader, hands in all_openings(book_hands(book)):
        if is_exact(opened(book, leader, hands)):
            return (leader, hands)
    # Not come to: those told to all others stand last, and each of them makes the book exact.
    return None


def is_exact(book):
    """Whether no run of the book strays and none is to an unasked story, or TooMany."""
    reached = all_reached(book, None)
    return all([stories_begun(one.places) != 0 and not is_unasked(one.places) for one in reached])


def all_openings(hands):
    """The list of (leader, others), each leader with some others, those with the fewest ahead, then the least."""
    found = []
    for many in range(1, len(hands)):
        for leader in hands:
            others = [hand for hand in hands if hand != leader]
            found += [(leader, some) for some in choices_of(others, many)]
    return found


def choices_of(names, many):
    """The list of all rising tuples of so many of the rising names, rising."""
    if many == 0:
        return [()]
    found = []
    for at, name in enumerate(names):
        found += [(name,) + more for more in choices_of(names[at + 1:], many - 1)]
    return found
