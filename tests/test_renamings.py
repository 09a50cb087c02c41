import itertools
import random
import unittest

from talehands.books import is_book
from talehands.errors import NoNames
from talehands.renamings import alike_hands, renamed, renamings
from tests.helpers import (Odd, all_seen, any_things, book_from, chance_books, hands_in, kept, least_alike, letters,
                           named_otherwise, sent, small_books, taken, told_book)


def some_renaming(chance, book):
    """Some renaming of the book: names of its hands and new ones."""
    hands = hands_in(book)
    return tuple(zip(hands, chance.sample(sorted({*hands, "q", "zz", "aa", "hand"}), len(hands))))


def back_from(names):
    """The renaming back."""
    return tuple(sorted((name, hand) for hand, name in names))


def all_that_make(book, other):
    """All renamings of the book that make the other one, of all ways to name its hands by those of the other."""
    hands, names = hands_in(book), hands_in(other)
    ways = [tuple(zip(hands, order)) for order in itertools.permutations(names, len(hands))]
    return tuple(sorted(way for way in ways if named_otherwise(book, way) == other))


RING = book_from([tuple(deed for pair in ("ab", "bc", "cd", "da") for deed in letters(*pair, "w"))[2 * turn:]
                  + tuple(deed for pair in ("ab", "bc", "cd", "da") for deed in letters(*pair, "w"))[:2 * turn]
                  for turn in range(4)])
STAR = book_from([letters("a", other, "w") for other in "bcde"])


class Renamed(unittest.TestCase):

    def test_new_names(self):
        one = told_book("a>b:x b>a:y", "a>c:z")
        self.assertEqual(renamed(one, (("a", "anne"), ("b", "bob"), ("c", "cy"))),
                         told_book("anne>bob:x bob>anne:y", "anne>cy:z"))

    def test_names_exchanged(self):
        one = told_book("a>b:x b>a:y", "a>c:z")
        self.assertEqual(renamed(one, (("a", "b"), ("b", "a"), ("c", "c"))), told_book("b>a:x a>b:y", "b>c:z"))
        self.assertEqual(renamed(one, (("a", "c"), ("b", "a"), ("c", "b"))), told_book("c>a:x a>c:y", "c>b:z"))
        self.assertEqual(renamed(one, (("a", "a"), ("b", "b"), ("c", "c"))), one)

    def test_some_names_new_and_some_not(self):
        one = told_book("a>b:x b>a:y", "a>c:z")
        self.assertEqual(renamed(one, (("a", "q"), ("b", "a"), ("c", "b"))), told_book("q>a:x a>q:y", "q>b:z"))

    def test_words_stay(self):
        self.assertEqual(renamed(told_book("a>b:a", "b>a:b"), (("a", "b"), ("b", "c"))), told_book("b>c:a", "c>b:b"))

    def test_no_hands(self):
        self.assertEqual(renamed(told_book("-"), ()), ((),))

    def test_made_least_and_rising(self):
        # The rows of the stories change their order, and so do the stories.
        one = told_book("a>b:w c>d:w", "b>a:w")
        told = renamed(one, (("a", "d"), ("b", "c"), ("c", "b"), ("d", "a")))
        self.assertEqual(told, (least_alike((sent("d c w"), taken("d c w"), sent("b a w"), taken("b a w"))),
                                (sent("c d w"), taken("c d w"))))
        self.assertEqual(told[0][0], sent("b a w"))

    def test_books_by_chance(self):
        chance = random.Random(200)
        for one in small_books() + tuple(chance_books(201, 30, 8, 32, "abcde")):
            way = some_renaming(chance, one)
            told = kept(self, [one, way], renamed)
            self.assertIs(type(told), tuple)
            self.assertIs(is_book(told), True)
            self.assertEqual(told, named_otherwise(one, way))
            self.assertEqual(list(told), sorted(set(told)))
            for story in told:
                self.assertEqual(story, least_alike(story))
            self.assertEqual(hands_in(told), tuple(sorted(name for hand, name in way)))
            self.assertEqual(renamed(told, back_from(way)), one)
            self.assertEqual(renamed(one, way), told)


class Refused(unittest.TestCase):

    def test_no_renaming_of_the_book(self):
        one = told_book("a>b:x", "b>c:x")
        right = (("a", "x"), ("b", "a"), ("c", "b"))
        renamed(one, right)
        a, b, c = right
        for wrong in (list(right), (), (a,), (a, b), (b, c), (a, c), (a, b, c, ("d", "d")), (("_", "q"), a, b, c),
                      (a, b, ("d", "b")), (a, a, b), (a, a, b, c), (a, b, b, c), (a, b, c, c), (a, c, b), (c, b, a),
                      (b, a, c), (a, b, ("c", "x")), (a, b, ("c", "a")), (("a", "q"), ("b", "q"), ("c", "q")),
                      (a, b, ("c", "")), (a, b, ("c", "C")), (a, b, ("c", "ninesigns")), (a, b, ("c", "a b")),
                      (a, b, ("c", None)), (a, b, ("c", 1)), (a, b, ("c", b"b")), (a, b, ("c", ["b"])),
                      (a, b, ("c", {})), (a, b, ("c", Odd())), (a, b, (Odd(), "b")), (a, b, (None, "b")),
                      (a, b, (["c"], "b")), (a, b, ["c", "b"]), (a, b, ("c",)),
                      (a, b, ("c", "b", "d")), (a, b, "cb"), (a, b, ()), (a, b, None), (a, b, {"c": "b"}), dict(right),
                      "axbacb", ("ax", "ba", "cb"), (right,), ((a, b, c),)):
            with self.assertRaises(NoNames, msg=repr(wrong)):
                renamed(one, wrong)

    def test_things_of_any_kind(self):
        one = told_book("a>b:x")
        for thing in any_things() + [0, 1, "Q", "a b", (), (("a", "a"),)]:
            for wrong in (thing, (thing, thing), (("a", "a"), thing), (thing, ("b", "b")), (("a", thing), ("b", "b")),
                          (("a", "q"), ("b", thing)), ((thing, "q"), ("b", "b"))):
                with self.assertRaises(NoNames, msg=repr(wrong)):
                    renamed(one, wrong)

    def test_no_hands(self):
        for wrong in ([], {}, "", None, 0, False, ((),), (("a", "b"),), [()]):
            with self.assertRaises(NoNames):
                renamed(told_book("-"), wrong)

    def test_what_is_handed_in_stays(self):
        wrong = [["a", "x"], ["b", "y"]]
        with self.assertRaises(NoNames):
            renamed(told_book("a>b:x"), wrong)
        self.assertEqual(wrong, [["a", "x"], ["b", "y"]])


class Renamings(unittest.TestCase):

    def test_few(self):
        one = told_book("a>b:x")
        self.assertEqual(renamings(one, told_book("q>r:x")), ((("a", "q"), ("b", "r")),))
        self.assertEqual(renamings(one, told_book("b>a:x")), ((("a", "b"), ("b", "a")),))
        self.assertEqual(renamings(one, one), ((("a", "a"), ("b", "b")),))
        both = told_book("a>b:x", "b>a:x")
        self.assertEqual(renamings(both, both), ((("a", "a"), ("b", "b")), (("a", "b"), ("b", "a"))))
        self.assertEqual(renamings(told_book("-"), told_book("-")), ((),))

    def test_none(self):
        one = told_book("a>b:x")
        for other in (told_book("a>b:y"), told_book("-"), told_book("a>b:x", "-"), told_book("a>b:x b>a:x"),
                      told_book("a>b:x", "b>a:x"), told_book("a>c:x c>b:x"), told_book("a>b:x", "c>d:x")):
            self.assertEqual(renamings(one, other), ())
            self.assertEqual(renamings(other, one), ())
        # As many hands and as many stories of as many deeds.
        self.assertEqual(renamings(told_book("a>b:x", "b>c:x"), told_book("a>b:x", "a>c:x")), ())
        self.assertEqual(renamings(told_book("a>b:x", "b>a:y"), told_book("a>b:x", "a>b:y")), ())

    def test_held_against_all_ways(self):
        chance = random.Random(202)
        books = small_books() + tuple(chance_books(203, 12, 4, 12, "abcde", "w")) + (RING, STAR)
        found = {True: 0, False: 0}
        for at, one in enumerate(books):
            for other in (one, named_otherwise(one, some_renaming(chance, one)), books[at - 1]):
                told = kept(self, [one, other], renamings)
                self.assertIs(type(told), tuple)
                self.assertEqual(told, all_that_make(one, other) if len(hands_in(one)) == len(hands_in(other)) else ())
                self.assertEqual(list(told), sorted(set(told)))
                for way in told:
                    self.assertEqual(renamed(one, way), other)
                self.assertEqual(renamings(one, other), told)
                found[told != ()] += 1
        self.assertGreater(min(found.values()), 20)

    def test_many(self):
        self.assertEqual(len(renamings(STAR, STAR)), 24)
        self.assertEqual(len(renamings(RING, RING)), 4)
        every = book_from(letters(one, other, "w") for one, other in itertools.permutations("abcde", 2))
        told = renamings(every, every)
        self.assertEqual(len(told), 120)
        self.assertEqual(list(told), sorted(set(told)))

    def test_back(self):
        for one in small_books()[::4]:
            other = named_otherwise(one, some_renaming(random.Random(204), one))
            self.assertEqual(tuple(sorted(map(back_from, renamings(one, other)))), renamings(other, one))


class AlikeHands(unittest.TestCase):

    def test_few(self):
        self.assertEqual(alike_hands(told_book("-")), ())
        self.assertEqual(alike_hands(told_book("a>b:x")), (("a",), ("b",)))
        self.assertEqual(alike_hands(told_book("a>b:x", "b>a:x")), (("a", "b"),))
        self.assertEqual(alike_hands(told_book("a>b:x c>d:x")), (("a", "c"), ("b", "d")))
        self.assertEqual(alike_hands(told_book("a>d:x c>b:x")), (("a", "c"), ("b", "d")))
        self.assertEqual(alike_hands(told_book("d>a:x c>b:x")), (("a", "b"), ("c", "d")))
        self.assertEqual(alike_hands(RING), (("a", "b", "c", "d"),))
        self.assertEqual(alike_hands(STAR), (("a",), ("b", "c", "d", "e")))
        self.assertEqual(alike_hands(told_book("c>a:x", "c>b:x")), (("a", "b"), ("c",)))

    def test_alike_views_are_not_enough(self):
        # Each of these hands does the same by itself, but what b takes of a is another word than of c.
        self.assertEqual(alike_hands(told_book("a>b:x c>b:y")), (("a",), ("b",), ("c",)))

    def test_held_against_all_ways(self):
        together = 0
        for one in small_books() + tuple(chance_books(205, 30, 4, 4, "abcde", "w")) + (RING, STAR):
            told = kept(self, [one], alike_hands)
            self.assertIs(type(told), tuple)
            ways = all_that_make(one, one)
            for hand in hands_in(one):
                self.assertEqual(sum(hand in part for part in told), 1)
                part, = [part for part in told if hand in part]
                self.assertIs(type(part), tuple)
                self.assertEqual(part, tuple(sorted({dict(way)[hand] for way in ways})))
            self.assertEqual(sum(map(len, told)), len(hands_in(one)))
            self.assertEqual(list(told), sorted(told))
            self.assertEqual(alike_hands(one), told)
            together += any(len(part) > 1 for part in told)
        self.assertGreater(together, 20)

    def test_renamed_with_the_book(self):
        chance = random.Random(206)
        for one in (RING, STAR) + small_books()[::5]:
            way = some_renaming(chance, one)
            by_hand = dict(way)
            named = sorted(tuple(sorted(by_hand[hand] for hand in part)) for part in alike_hands(one))
            self.assertEqual(alike_hands(renamed(one, way)), tuple(named))

    def test_hands_alike_have_views_of_the_same_lengths(self):
        for one in small_books():
            for part in alike_hands(one):
                lengths = {tuple(sorted(len(all_seen(story).get(hand, ())) for story in one)) for hand in part}
                self.assertEqual(len(lengths), 1)


if __name__ == "__main__":
    unittest.main()
