"""What the document promises over the whole program."""

import copy
import random
import unittest

from talehands.beginnings import is_beginning, rest
from talehands.books import book_by, book_hands, book_of, is_book
from talehands.booktexts import read_book, show_book
from talehands.checker import holds
from talehands.closings import closed_up
from talehands.machines import book_views, machine
from talehands.mends import mend
from talehands.openings import opened
from talehands.orders import changed, least_row
from talehands.papers import (paper_goes, paper_mends, paper_renamed, paper_seen, paper_stuck, paper_strays,
                              paper_unasked)
from talehands.plots import plot_rows
from talehands.renamings import alike_hands, renamed, renamings
from talehands.rooms import least_rooms, run_within
from talehands.seen import seen
from talehands.standings import is_run, standings
from talehands.strays import stray
from talehands.stucks import stuck
from talehands.unasked import all_unasked, unasked
from talehands.views import alike
from tests.helpers import chance_books, chance_rows, shuffled, small_books


def mixed_books():
    """Books of which the questions of all kinds can be asked."""
    return small_books()[::6] + tuple(chance_books(340, 6, 6, 16, "abc")) + tuple(chance_books(341, 6, 3, 10, "abcde"))


def questions(book, other):
    """Questions of all kinds, of one book and of two."""
    hands = book_hands(book)
    asked = [(ask, (book, rooms)) for rooms in (None, 1, 2)
             for ask in (standings, stray, stuck, unasked, all_unasked, paper_strays, paper_stuck, paper_unasked)]
    asked += [(ask, (book,)) for ask in (book_hands, is_book, show_book, book_of, alike_hands, mend, paper_mends)]
    asked += [(ask, (book, other)) for ask in (seen, renamings, paper_seen, paper_renamed)]
    asked += [(ask, (book, hand)) for ask in (book_views, machine) for hand in hands + ("q",)]
    asked += [(ask, (book[0], other[-1])) for ask in (is_beginning, rest, alike, changed)]
    asked += [(ask, (story, 1)) for ask in (run_within, paper_goes) for story in book]
    plot = ("or", tuple(("row", story) for story in book))
    asked += [(plot_rows, (plot,)), (book_by, (plot,)), (read_book, (show_book(book),))]
    asked.append((renamed, (book, tuple(zip(hands, hands[1:] + hands[:1])))))
    if hands:
        asked.append((opened, (book, hands[0], hands[1:])))
    return asked


class Whole(unittest.TestCase):

    def test_the_same_is_told_again(self):
        books = mixed_books()
        asked = [question for one, other in zip(books, books[1:]) for question in questions(one, other)]
        before = copy.deepcopy([things for ask, things in asked])
        first = [ask(*things) for ask, things in asked]
        kept = copy.deepcopy(first)
        order = list(range(len(asked)))
        random.Random(342).shuffle(order)
        for at in order:
            ask, things = asked[at]
            told = ask(*things)
            self.assertEqual(told, kept[at])
            if isinstance(told, list):
                # It is the asker's own: what is done to it changes nothing.
                told.clear()
                self.assertEqual(ask(*things), kept[at])
        self.assertEqual(first, kept)
        self.assertEqual([things for ask, things in asked], before)

    def test_equal_books_are_told_the_same(self):
        for book in mixed_books()[::3]:
            other = read_book("\n".join(show_book(book).split("\n")))
            for rooms in (None, 1):
                for ask in (stray, stuck, unasked):
                    self.assertEqual(ask(book, rooms), ask(other, rooms))

    def test_rows_are_one_story_just_where_each_hand_sees_the_same(self):
        chance = random.Random(343)
        for story in chance_rows(344, 30, 16, "abc", "xy", True):
            other = shuffled(chance, story)
            self.assertEqual(book_of((story, other)), book_of((story,)))
            self.assertEqual(least_row(other), least_row(story))
        stories = sorted(set(map(least_row, chance_rows(345, 30, 8, "abc", "xy", True))))
        self.assertEqual(book_of(tuple(stories)), tuple(stories))

    def test_each_told_story_can_be_run(self):
        for book in mixed_books():
            for story in book:
                self.assertIs(is_run(book, None, story), True)
                self.assertIs(is_run(book, least_rooms(story), run_within(story, least_rooms(story))[1]), True)

    def test_whatever_the_house_tells_the_checker_takes(self):
        books = mixed_books()
        told = []
        for one, other in zip(books, books[1:]):
            for rooms in (None, 1, 2):
                told += [paper_strays(one, rooms), paper_stuck(one, rooms), paper_unasked(one, rooms)]
                told += [paper_goes(story, rooms or 3) for story in one]
            told += [paper_seen(one, other), paper_renamed(one, one), paper_renamed(one, other), paper_mends(one)]
            told += [paper_unasked(closed_up(one), None), paper_seen(one, closed_up(one))]
        for answer in told:
            if answer is not None:
                self.assertIs(holds(*answer), True, answer)

    def test_exact_just_where_closed_and_never_stuck(self):
        for book in mixed_books():
            sound, moves, closed = (ask(book, None)[0][0] for ask in (paper_strays, paper_stuck, paper_unasked))
            exact = (sound, closed) == ("sound", "closed")
            self.assertEqual(exact, (moves, closed) == ("moves", "closed"))
            self.assertEqual(exact, mend(book) is None)

    def test_an_opening_told_to_all_others_makes_every_book_exact(self):
        for book in mixed_books():
            for leader in book_hands(book)[:2]:
                made = opened(book, leader, tuple(hand for hand in book_hands(book) if hand != leader))
                self.assertIs(mend(made), None)


if __name__ == "__main__":
    unittest.main()
