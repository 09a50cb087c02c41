"""Books that are seen alike by all hands."""

from talehands.books import book_hands
from talehands.machines import book_views


def seen(book, other):
    """("alike",), or ("parted", hand, view): a least view that the hand has in just one of the books."""
    for hand in book_hands(book + other):
        views = views_in_one(book_views(book, hand), book_views(other, hand))
        if views:
            return ("parted", hand, min(views, key=lambda deeds: (len(deeds), deeds)))
    return ("alike",)


def views_in_one(views, others):
    """The list of the views that are just among the first ones or just among the others."""
    return [one for one in views if one not in others] + [one for one in others if one not in views]
