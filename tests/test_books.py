import random
import unittest

from talehands.books import book_by, book_hands, book_of, is_book
from talehands.errors import NoBook, NoPlot, TooMany
from tests.helpers import (Odd, all_plot_rows, alike_rows, any_things, book_from, chance_books, chance_rows, either,
                           hands_in, kept, least_alike, letters, names, sent, shuffled, taken)

S, T = sent("a b w"), taken("a b w")
ONE, TWO, THREE = [letters("a", "b", [word]) for word in "xyz"]
# Their two pairs of hands have nothing to do with one another: the rows are alike, and the second is the least.
APART = letters("c", "d", "w") + letters("a", "b", "w")
LEAST = (sent("a b w"), sent("c d w"), taken("a b w"), taken("c d w"))
LONG = letters("a", "b", "w" * 16)
TOO_LONG = LONG[:-1] + (S, T, T)


def many_stories(many):
    """So many stories that aren't alike."""
    return tuple(letters("a", "b", [name]) for name in names(many))


def with_hands(many):
    """A story with so many hands."""
    return sum([letters(giver, taker, "w") for giver, taker in zip("abcdefg"[:many], "abcdefg"[1:many])], ())


def least_rows(rows):
    return tuple(map(least_alike, rows))


class BookOf(unittest.TestCase):

    def test_rising(self):
        for rows in ((ONE, TWO, THREE), (THREE, TWO, ONE), (TWO, ONE, THREE), (TWO, THREE, ONE, TWO)):
            self.assertEqual(book_of(rows), (ONE, TWO, THREE))

    def test_one(self):
        self.assertEqual(book_of((ONE,)), (ONE,))
        self.assertEqual(book_of(((),)), ((),))
        self.assertEqual(book_of((ONE, ())), ((), ONE))
        self.assertEqual(book_of(((), (), ())), ((),))

    def test_made_least(self):
        self.assertEqual(book_of((APART,)), (LEAST,))
        self.assertEqual(book_of((LEAST,)), (LEAST,))

    def test_alike_rows_are_one_story(self):
        self.assertEqual(book_of((APART, LEAST, APART)), (LEAST,))
        self.assertEqual(book_of(tuple(alike_rows(APART))), (LEAST,))
        self.assertEqual(book_of((ONE, APART, TWO, LEAST)), book_from((ONE, TWO, LEAST)))

    def test_all_tuples(self):
        book = book_of((TWO, APART))
        self.assertIs(type(book), tuple)
        for story in book:
            self.assertIs(type(story), tuple)
            for deed in story:
                self.assertIs(type(deed), tuple)

    def test_made_by_chance(self):
        chance = random.Random(60)
        for book in chance_books(61, 60, 6, 8) + chance_books(62, 20, 20, 32, "abcde"):
            rows = [shuffled(chance, story) for story in book for turn in range(3)]
            chance.shuffle(rows)
            self.assertEqual(book_of(tuple(rows)), book)

    def test_long_stories(self):
        self.assertEqual(book_of((LONG, ONE)), (least_alike(LONG), ONE))
        for row in chance_rows(63, 20, 32, "abcde", "xy", True, 0.2):
            self.assertEqual(book_of((row,)), (least_alike(row),))

    def test_forty_stories(self):
        self.assertEqual(book_of(many_stories(40)[::-1]), least_rows(many_stories(40)))
        self.assertEqual(book_of(many_stories(40) * 5), least_rows(many_stories(40)))

    def test_five_hands(self):
        for many in range(2, 6):
            self.assertEqual(book_of((with_hands(many),)), (least_alike(with_hands(many)),))

    def test_two_hundred_rows(self):
        self.assertEqual(book_of((ONE, TWO) * 100), (ONE, TWO))
        self.assertEqual(book_of((ONE,) * 200), (ONE,))


class Refused(unittest.TestCase):

    def test_what_is_no_tuple(self):
        for thing in any_things() + [0, 1, "a", [ONE], {ONE: 1}, {ONE}, list(ONE), iter((ONE,)), "a>b:w"]:
            if not isinstance(thing, tuple):
                self.refused(thing, None)

    def test_no_rows(self):
        self.refused((), None)

    def test_more_than_two_hundred_rows(self):
        self.refused((ONE,) * 201, None)
        self.refused((ONE, TWO) * 500, None)
        # Ahead of what its rows are.
        self.refused((None,) * 201, None)
        self.refused((ONE,) * 200 + (S,), None)
        self.refused(((S,),) + (ONE,) * 200, None)

    def test_rows_that_are_no_stories(self):
        for wrong in ((S,), (T,), (T, S), (S, S, T), (S, T, T), (S, taken("a b v")), (S, None), (None,), S, list(ONE),
                      (list(S), list(T)), ((),), [ONE], (ONE,), TOO_LONG, LONG + (S, T), LONG + ONE):
            self.refused((wrong,), 0)
            self.refused((ONE, wrong), 1)
            self.refused((ONE, (), wrong, wrong), 2)
            self.refused((wrong, ONE), 0)
            self.refused((ONE,) * 199 + (wrong,), 199)

    def test_rows_of_any_kind(self):
        for thing in any_things() + [0, 1, -1, "a", "a>b:w"]:
            self.refused((thing,), 0)
            self.refused((ONE, ONE, thing, (S,)), 2)

    def test_the_first_of_several(self):
        self.refused((ONE, (S,), None, TOO_LONG), 1)
        self.refused((ONE, TOO_LONG, (S,)), 1)
        self.refused((ONE, TWO, Odd(), (S,)), 2)

    def test_more_than_forty_stories(self):
        self.refused(many_stories(41), None)
        self.refused(many_stories(200), None)
        self.refused(many_stories(41) + ((S,),), 41)
        self.refused(many_stories(41) + (with_hands(6),), None)

    def test_more_than_five_hands(self):
        self.refused((with_hands(6),), None)
        self.refused((with_hands(5), letters("a", "f", "w")), None)
        self.refused((letters("a", "b", "w"), letters("c", "d", "w"), letters("e", "f", "w")), None)
        self.refused((with_hands(6), (S,)), 1)

    def test_thirty_two_deeds(self):
        self.assertEqual(len(book_of((LONG,))[0]), 32)
        self.assertEqual(len(TOO_LONG), 34)
        self.refused((LONG + (S,),), 0)

    def refused(self, rows, number):
        with self.assertRaises(NoBook) as seen:
            book_of(rows)
        self.assertEqual(seen.exception.number, number)
        self.assertIs(is_book(rows), False)


class BookBy(unittest.TestCase):

    def test_all_rows_of_a_plot(self):
        one, two, three = ("row", ONE), ("row", TWO), ("row", THREE)
        for plot in (one, ("or", (three, one, two)), ("then", (("or", (two, one)), ("or", (one, three)))),
                     ("again", ("or", (one, two)), 0, 2), ("then", (("row", (S,)), ("row", (T,)))), ("row", APART),
                     ("or", (("row", LEAST), ("row", APART))), ("again", one, 0, 0), ("again", one, 0, 4)):
            self.assertEqual(book_by(plot), book_from(all_plot_rows(plot)))

    def test_no_plot_is_ahead(self):
        for thing in any_things() + [0, 1, "a", (ONE,), ONE, [("row", ONE)], ("or", (("row", (S,) * 25), None))]:
            with self.assertRaises(NoPlot):
                book_by(thing)

    def test_too_many_is_next(self):
        for plot in (("row", LONG), ("row", (S,) * 25), either(names(201)), ("again", ("row", LONG), 0, 0),
                     ("then", (("row", LONG[:20]),) * 2), ("or", tuple(("row", row) for row in many_stories(201)))):
            with self.assertRaises(TooMany):
                book_by(plot)

    def test_then_as_a_book_of_its_rows(self):
        one = ("row", ONE)
        for plot, number in ((("row", (S,)), 0), (("or", (one, ("row", (S,)))), 1), (("then", (one, ("row", (T,)))), 0),
                             (("or", (one, one, ("row", TWO), ("row", (T,)), ("row", (S,)))), 2),
                             (("again", ("row", (S,)), 0, 2), 1), (("row", with_hands(6)), None),
                             (("or", tuple(("row", row) for row in many_stories(41))), None),
                             (("or", tuple(("row", row) for row in many_stories(41)) + (("row", (S,)),)), 41)):
            with self.assertRaises(NoBook) as seen:
                book_by(plot)
            self.assertEqual(seen.exception.number, number)


class Hands(unittest.TestCase):

    def test_rising(self):
        self.assertEqual(book_hands(((),)), ())
        self.assertEqual(book_hands(book_of((letters("b", "a", "w"),))), ("a", "b"))
        self.assertEqual(book_hands(book_of((letters("z", "c", "w"), letters("b", "aa", "w")))), ("aa", "b", "c", "z"))
        self.assertEqual(book_hands(book_of((with_hands(5), ()))), ("a", "b", "c", "d", "e"))
        self.assertIs(type(book_hands(((),))), tuple)

    def test_made_by_chance(self):
        for book in chance_books(64, 40, 5, 8, "abcde"):
            self.assertEqual(book_hands(book), hands_in(book))


class IsBook(unittest.TestCase):

    def test_books(self):
        for book in [((),), (ONE,), ((), ONE), (LEAST,), (ONE, TWO, THREE), least_rows(many_stories(40)),
                     (least_alike(LONG),), (least_alike(with_hands(5)),)] + chance_books(65, 40, 6, 8):
            self.assertIs(is_book(book), True)

    def test_not_rising_or_twice(self):
        for wrong in ((TWO, ONE), (ONE, ONE), (ONE, TWO, TWO), (ONE, THREE, TWO), (ONE, ()), ((), ()),
                      least_rows(many_stories(40)[::-1])):
            self.assertIs(is_book(wrong), False)

    def test_not_least(self):
        self.assertIs(is_book((APART,)), False)
        self.assertIs(is_book((LONG,)), False)
        for row in alike_rows(APART):
            self.assertIs(is_book((row,)), row == LEAST)
            self.assertIs(is_book(tuple(sorted((row, ONE)))), row == LEAST)

    def test_no_stories(self):
        for wrong in ((S,), (T,), (T, S), (S, S, T), S, TOO_LONG, None, [], list(ONE)):
            self.assertIs(is_book((wrong,)), False)
            self.assertIs(is_book((ONE, wrong)), False)
        self.assertIs(is_book(()), False)
        self.assertIs(is_book(ONE), False)

    def test_too_many(self):
        self.assertIs(is_book(least_rows(many_stories(41))), False)
        self.assertIs(is_book((least_alike(with_hands(6)),)), False)
        self.assertIs(is_book((least_alike(LONG + (S, T)),)), False)

    def test_lists(self):
        for wrong in ([ONE], (list(ONE),), ((list(S), list(T)),), [list(ONE)], ([],), []):
            self.assertIs(is_book(wrong), False)

    def test_things_of_any_kind(self):
        for thing in any_things() + [0, 1, "a"]:
            # One of them is the book of the story without deeds.
            self.assertIs(is_book(thing), repr(thing) == "((),)", repr(thing))
            self.assertIs(is_book((thing,)), False, repr(thing))
            self.assertIs(is_book((ONE, thing)), False, repr(thing))
            self.assertIs(is_book(((S, thing),)), False, repr(thing))
            self.assertIs(is_book((((thing,) + S[1:], T),)), False, repr(thing))

    def test_what_is_handed_in_stays(self):
        rows = (TWO, APART, ONE)
        book = kept(self, [rows], book_of)
        self.assertEqual(kept(self, [rows], book_of), book)
        self.assertEqual(kept(self, [("or", (("row", TWO), ("row", ONE)))], book_by), (ONE, TWO))
        self.assertEqual(kept(self, [book], book_hands), ("a", "b", "c", "d"))
        self.assertIs(kept(self, [book], is_book), True)
        for thing in ([ONE], (list(ONE),), ([S, T], [])):
            self.assertIs(kept(self, [thing], is_book), False)
            with self.assertRaises(NoBook):
                book_of(thing)


if __name__ == "__main__":
    unittest.main()
