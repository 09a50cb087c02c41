import unittest

from talehands.errors import TooMany
from talehands.mends import mend
from talehands.openings import opened
from talehands.strays import stray
from talehands.unasked import unasked
from tests.helpers import (book_from, chance_books, endless_book, hands_in, is_exact_book, kept, letters, names,
                           sent, small_books, some_of, standings_book, taken, told_ahead, told_book, walked)


def ring_book(hands):
    """A book of two stories in which each hand sends the next one a word of the story, and only then takes its own."""
    pairs = list(zip(hands, hands[1:] + hands[:1]))
    return book_from([tuple(sent(f"{giver} {taker} {word}") for giver, taker in pairs)
                      + tuple(taken(f"{giver} {taker} {word}") for giver, taker in pairs) for word in "xy"])


def pairs_book(many):
    """A book of so many stories in which two pairs of hands each have a word of their own for each."""
    return book_from(letters("a", "b", [name]) + letters("c", "d", [name]) for name in names(many))


def openings_in_order(book):
    """All leaders of the book with all choices of others, those with the fewest hands ahead, then the least."""
    ways = [(leader, some) for leader in hands_in(book)
            for some in some_of([hand for hand in hands_in(book) if hand != leader])]
    return sorted(ways, key=lambda way: (len(way[1]), way))


def plain_mend(book):
    """What is to be told of the book, gone through all openings; TooMany where one must be tried that reaches more."""
    if is_exact_book(book):
        return None
    for leader, hands in openings_in_order(book):
        exact = is_exact_book(told_ahead(book, leader, hands))
        if exact is None:
            return TooMany
        if exact:
            return (leader, hands)


class Mend(unittest.TestCase):

    def test_exact_books(self):
        for one in (told_book("-"), told_book("a>b:x"), told_book("a>b:x", "a>b:y"), told_book("a>b:x", "-"),
                    told_book("a>b:x c>d:x"), standings_book(500), standings_book(3000)):
            self.assertIs(kept(self, [one], mend), None)

    def test_exact_books_of_long_stories(self):
        long = letters("a", "b", ["w"] * 16)
        self.assertEqual(len(long), 32)
        for one in (book_from([long]), book_from([long, ()]), book_from([long, letters("a", "b", "xyz")]),
                    book_from([letters("a", "b", "vwxyzvwxyzvwx") + letters("b", "a", "w")])):
            self.assertGreater(max(map(len, one)), 24)
            self.assertIs(mend(one), None)

    def test_one_hand_mends(self):
        self.assertEqual(mend(told_book("a>b:x c>d:x", "a>b:y c>d:y")), ("a", ("c",)))
        self.assertEqual(mend(told_book("a>b:x", "b>a:x")), ("a", ("b",)))
        # What a tells d doesn't help: b doesn't know of it.
        self.assertEqual(mend(told_book("b>a:x d>c:x", "b>a:y d>c:y")), ("b", ("d",)))
        self.assertEqual(mend(told_book("a>b:x", "c>b:x")), ("a", ("c",)))

    def test_two_hands_must_be_told(self):
        one = told_book("a>b:x c>d:x e>d:x", "a>b:y c>d:y e>d:y")
        self.assertEqual(mend(one), ("a", ("c", "e")))

    def test_all_others_must_be_told(self):
        self.assertEqual(mend(ring_book("abc")), ("a", ("b", "c")))
        self.assertEqual(mend(ring_book("abcd")), ("a", ("b", "c", "d")))
        self.assertEqual(mend(ring_book("zyx")), ("x", ("y", "z")))

    def test_not_sound_but_closed(self):
        one = told_book("a>b:w", "b>a:w")
        self.assertEqual((stray(one, None)[0], unasked(one, None)[0]), ("stray", "closed"))
        self.assertEqual(mend(one), ("a", ("b",)))

    def test_sound_but_not_closed(self):
        one = told_book("a>b:x c>d:x", "a>b:x", "c>d:x")
        self.assertEqual((stray(one, None)[0], unasked(one, None)[0]), ("sound", "unasked"))
        self.assertEqual(mend(one), plain_mend(one))
        self.assertIsNot(mend(one), None)

    def test_held_against_all_openings(self):
        found = {}
        for one in small_books() + tuple(chance_books(220, 12, 3, 4, "abcde", "xy", 0.6)):
            told = kept(self, [one], mend)
            self.assertEqual(told, plain_mend(one))
            if told is not None:
                self.assertIs(type(told), tuple)
                self.assertIs(type(told[1]), tuple)
                made = opened(one, *told)
                self.assertEqual((stray(made, None)[0], unasked(made, None)[0]), ("sound", "closed"))
            self.assertEqual(mend(one), told)
            many = 0 if told is None else len(told[1])
            found[many] = found.get(many, 0) + 1
        self.assertGreaterEqual(len(found), 3)
        self.assertGreater(min(found[0], found[1]), 20)

    def test_none_with_fewer_hands(self):
        for one in (ring_book("abc"), ring_book("abcd"), told_book("a>b:x c>d:x e>d:x", "a>b:y c>d:y e>d:y")):
            leader, hands = mend(one)
            for way in openings_in_order(one):
                if len(way[1]) < len(hands):
                    self.assertIs(is_exact_book(opened(one, *way)), False)


class Refused(unittest.TestCase):

    def test_the_book(self):
        for one in (standings_book(3001), standings_book(4000), endless_book(), pairs_book(27)):
            with self.assertRaises(TooMany):
                kept(self, [one], mend)

    def test_one_that_must_be_tried(self):
        # Told to b, which helps nothing, a and b have more standings of their own, so all have many more.
        self.assertEqual(len(walked(told_ahead(pairs_book(16), "a", ("b",)))), 81 * 33)
        self.assertEqual(mend(pairs_book(16)), ("a", ("c",)))
        for many in (17, 26):
            one = pairs_book(many)
            self.assertLessEqual(len(walked(one)), 3000)
            self.assertIs(walked(told_ahead(one, "a", ("b",))), None)
            self.assertIs(is_exact_book(told_ahead(one, "a", ("c",))), True)
            with self.assertRaises(TooMany):
                mend(one)

    def test_the_told_one(self):
        # Of two hands the first opening is told to all others.
        one = tuple(sorted(standings_book(2600) + told_book("b>a:w")))
        self.assertEqual(mend(one), ("a", ("b",)))
        one = tuple(sorted(standings_book(2700) + told_book("b>a:w")))
        self.assertIs(is_exact_book(one), False)
        self.assertIs(walked(told_ahead(one, "a", ("b",))), None)
        with self.assertRaises(TooMany):
            mend(one)


if __name__ == "__main__":
    unittest.main()
