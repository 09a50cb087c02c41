import itertools
import unittest

from talehands.books import is_book
from talehands.closings import closed_up
from talehands.errors import TooMany
from talehands.seen import seen
from talehands.unasked import all_unasked, unasked
from tests.helpers import (book_from, endless_book, hands_in, kept, letters, names, small_books, standings_book,
                           told_book, views_in, whole_runs)


def pairs_book(many):
    """A book of so many stories in which two pairs of hands each have a word of their own for each."""
    return book_from(letters("a", "b", [name]) + letters("c", "d", [name]) for name in names(many))


class ClosedUp(unittest.TestCase):

    def test_few(self):
        self.assertEqual(closed_up(told_book("-")), ((),))
        self.assertEqual(closed_up(told_book("a>b:w", "b>a:w")), told_book("a>b:w", "b>a:w"))
        self.assertEqual(closed_up(told_book("a>b:x c>d:x", "a>b:y c>d:y")),
                         told_book("a>b:x c>d:x", "a>b:y c>d:y", "a>b:x c>d:y", "a>b:y c>d:x"))
        self.assertEqual(closed_up(told_book("a>b:x", "c>d:x")), told_book("a>b:x", "c>d:x", "a>b:x c>d:x", "-"))

    def test_all_unasked_stories_too(self):
        found = 0
        for one in small_books():
            told = closed_up(one)
            self.assertIs(type(told), tuple)
            self.assertEqual(told, tuple(sorted(set(one) | set(whole_runs(one, None)))))
            self.assertIs(is_book(told), True)
            self.assertEqual(unasked(told, None)[0], "closed")
            self.assertEqual(all_unasked(told, None), ())
            self.assertEqual(closed_up(told), told)
            self.assertEqual(seen(one, told), ("alike",))
            for hand in hands_in(one):
                self.assertEqual(views_in(told, hand), views_in(one, hand))
            self.assertEqual(told == one, unasked(one, None)[0] == "closed")
            found += told != one
        self.assertGreater(found, 10)

    def test_the_least_closed_book(self):
        # Of all books of these stories that are closed and have those of the first one.
        every = told_book("a>b:x c>d:x", "a>b:y c>d:y", "a>b:x c>d:y", "a>b:y c>d:x", "-", "a>b:x", "c>d:x")
        for many in (1, 2):
            for one in itertools.combinations(every, many):
                told = closed_up(one)
                for more in range(1, len(every) + 1):
                    for other in itertools.combinations(every, more):
                        if set(one) <= set(other) and unasked(other, None)[0] == "closed":
                            self.assertLessEqual(set(told), set(other))

    def test_told_again(self):
        one = pairs_book(3)
        told = kept(self, [one], closed_up)
        self.assertEqual(kept(self, [one], closed_up), told)
        self.assertEqual(len(told), 9)


class Refused(unittest.TestCase):

    def test_forty_stories(self):
        self.assertEqual(len(closed_up(pairs_book(6))), 36)
        # Of the first pair five words, of the second one eight.
        firsts, seconds = names(5), names(8)
        stories = [letters("a", "b", [firsts[at % 5]]) + letters("c", "d", [seconds[at]]) for at in range(8)]
        self.assertEqual(len(closed_up(book_from(stories))), 40)
        whole = book_from(letters("a", "b", [first]) + letters("c", "d", [second])
                          for first in firsts for second in seconds)
        self.assertEqual(closed_up(whole), whole)

    def test_more_than_forty_stories(self):
        self.refused(pairs_book(7))
        firsts, seconds = names(3), names(14)
        self.refused(book_from(letters("a", "b", [firsts[at % 3]]) + letters("c", "d", [seconds[at]])
                               for at in range(14)))

    def test_thirty_two_deeds(self):
        one = book_from([letters("a", "b", "x" * 10) + letters("c", "d", "x"),
                         letters("a", "b", "y") + letters("c", "d", "y" * 6)])
        self.assertEqual(sorted(len(story) for story in closed_up(one)), [4, 14, 22, 32])
        self.refused(book_from([letters("a", "b", "x" * 10) + letters("c", "d", "x"),
                                letters("a", "b", "y") + letters("c", "d", "y" * 7)]))

    def test_more_than_three_thousand_standings(self):
        self.assertEqual(closed_up(standings_book(3000)), standings_book(3000))
        self.refused(standings_book(3001))
        self.refused(endless_book())

    def refused(self, one):
        self.assertIs(is_book(one), True)
        with self.assertRaises(TooMany):
            closed_up(one)


if __name__ == "__main__":
    unittest.main()
