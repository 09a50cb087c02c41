import random
import unittest

from talehands.books import is_book
from talehands.errors import NoHand
from talehands.openings import opened
from tests.helpers import (Odd, any_things, book_from, chance_books, hands_in, is_exact_book, kept, least_alike,
                           letters, names, row_from, seen_by, sent, small_books, some_of, taken, told_ahead,
                           told_book)


def told_and_untold(book):
    """All leaders of the book with all choices of its other hands."""
    return [(leader, some) for leader in hands_in(book)
            for some in some_of([hand for hand in hands_in(book) if hand != leader])]


class Opened(unittest.TestCase):

    def test_no_hands_one_and_all_others(self):
        one = told_book("a>b:x c>d:x", "a>b:y c>d:y")
        self.assertEqual(opened(one, "a", ()), one)
        self.assertEqual(opened(one, "c", ()), one)
        self.assertEqual(opened(one, "a", ("c",)), told_book("a>c:aa a>b:x c>d:x", "a>c:ab a>b:y c>d:y"))
        self.assertEqual(opened(one, "d", ("a",)), told_book("d>a:aa a>b:x c>d:x", "d>a:ab a>b:y c>d:y"))
        self.assertEqual(opened(one, "b", ("a", "c", "d")),
                         told_book("b>a:aa b>c:aa b>d:aa a>b:x c>d:x", "b>a:ab b>c:ab b>d:ab a>b:y c>d:y"))

    def test_made_least_and_rising(self):
        # The letters of the opening come ahead for those who send and take them; others needn't wait.
        told = opened(told_book("a>b:x", "c>d:x"), "d", ("c",))
        self.assertEqual(told, tuple(sorted([row_from("a!b:x d!c:aa b?a:x c?d:aa"), row_from("d>c:ab c>d:x")])))
        # The second story of the book becomes the first one.
        told = opened(told_book("a>b:x", "b>c:x c>d:x"), "d", ("a",))
        self.assertEqual(told, (row_from("b!c:x d!a:ab c?b:x c>d:x a?d:ab"), row_from("d>a:aa a>b:x")))

    def test_a_story_without_deeds(self):
        self.assertEqual(opened(told_book("-", "a>b:x"), "a", ("b",)), told_book("a>b:aa", "a>b:ab a>b:x"))

    def test_words_of_forty_stories(self):
        words = [first + second for first in "ab" for second in "abcdefghijklmnopqrstuvwxyz"][:40]
        self.assertEqual((words[1], words[25], words[26], words[39]), ("ab", "az", "ba", "bn"))
        one = book_from(letters("a", "b", [name]) for name in names(40))
        self.assertEqual(len(one), 40)
        told = opened(one, "b", ("a",))
        self.assertEqual(len(told), 40)
        for word, story in zip(words, one):
            self.assertIn(least_alike(letters("b", "a", [word]) + story), told)

    def test_each_story_by_what_the_hands_see(self):
        chance = random.Random(210)
        for one in small_books() + tuple(chance_books(211, 30, 30, 24, "abcde")):
            ways = told_and_untold(one)
            for leader, hands in chance.sample(ways, min(4, len(ways))):
                told = kept(self, [one, leader, hands], opened)
                self.assertIs(type(told), tuple)
                self.assertIs(is_book(told), True)
                self.assertEqual(list(told), sorted(set(told)))
                self.assertEqual(told, told_ahead(one, leader, hands))
                self.assertEqual(opened(one, leader, hands), told)
                self.hold(one, leader, hands, told)

    def hold(self, one, leader, hands, told):
        """Each story is told once, with its word ahead of all that those see who send it and take it."""
        wanted = []
        for word, story in zip(names(40), one):
            views = {hand: seen_by(story, hand) for hand in hands_in(one)}
            for hand in hands:
                views[hand] = (taken(f"{leader} {hand} {word}"),) + views[hand]
            views[leader] = tuple(sent(f"{leader} {hand} {word}") for hand in hands) + views[leader]
            wanted.append(views)
        found = [{hand: seen_by(story, hand) for hand in hands_in(one)} for story in told]
        self.assertEqual(sorted(map(repr, found)), sorted(map(repr, wanted)))
        for story in told:
            self.assertEqual(story, least_alike(story))

    def test_exact_where_all_others_are_told(self):
        tried = 0
        for one in small_books()[::2] + tuple(chance_books(212, 8, 4, 8, "abcde")):
            for leader in hands_in(one):
                others = tuple(hand for hand in hands_in(one) if hand != leader)
                exact = is_exact_book(opened(one, leader, others))
                if exact is not None:
                    self.assertIs(exact, True)
                    tried += 1
        self.assertGreater(tried, 150)


class Refused(unittest.TestCase):

    def refused(self, *things):
        with self.assertRaises(NoHand, msg=repr(things)):
            kept(self, list(things), opened)

    def test_leaders(self):
        one = told_book("a>b:x c>d:x", "a>b:y c>d:y")
        for leader in ("e", "ab", "", "A", "x", "a ", "-", None, 0, b"a", ["a"], ("a",), {"a": 1}, {}):
            for hands in ((), ("b",), ("b", "c", "d"), None, ["b"]):
                self.refused(one, leader, hands)
        self.refused(told_book("-"), "a", ())
        self.refused(told_book("-"), None, ())

    def test_hands(self):
        one = told_book("a>b:x c>d:x", "a>b:y c>d:y")
        for hands in (["b"], [], {"b": 1}, {}, "b", "bc", "", None, True, 0, ("a",), ("a", "b"), ("b", "b"), ("c", "b"),
                      ("b", "c", "c"), ("d", "c", "b"), ("e",), ("b", "e"), ("bb",), ("",), ("B",), (None,), (0,),
                      (("b",),), (["b"],), ({},), (b"b",), ("b", ["c"]), ("b", "c", "d", "e"), ("a", "b", "c", "d")):
            self.refused(one, "a", hands)
        for hands in ((), ("b",), ("c",), ("d",), ("b", "c"), ("b", "d"), ("c", "d"), ("b", "c", "d")):
            opened(one, "a", hands)

    def test_things_of_any_kind(self):
        one = told_book("a>b:x")
        for thing in any_things() + [0, 1, ("a",)]:
            leader = thing
            with self.assertRaises(NoHand):
                opened(one, leader, ())
            for hands in (thing, (thing,), ("b", thing)):
                with self.assertRaises(NoHand):
                    opened(one, "a", hands)
        for hands in (Odd(), (Odd(),), ("b", Odd())):
            with self.assertRaises(NoHand):
                opened(one, "a", hands)


if __name__ == "__main__":
    unittest.main()
