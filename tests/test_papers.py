import random
import unittest

from talehands.checker import holds
from talehands.errors import NoRooms, TooMany
from talehands.mends import mend
from talehands.openings import opened
from talehands.papers import (paper_goes, paper_mends, paper_renamed, paper_seen, paper_stuck, paper_strays,
                              paper_unasked)
from talehands.renamings import renamings
from talehands.rooms import run_within
from talehands.seen import seen
from talehands.strays import stray
from talehands.stucks import stuck
from talehands.unasked import unasked
from tests.helpers import (chance_rows, closed_in_one_room, endless_book, hands_in, kept, named_otherwise, row_from,
                           sent, small_books, sound_in_one_room, standings_book, taken, told_book, wrong_rooms)

S, T = sent("a b w"), taken("a b w")
CROSSING = (S, S, sent("b a w"), sent("b a w"), T, T, taken("b a w"), taken("b a w"))
PAIRS = told_book("a>b:x c>d:x", "a>b:y c>d:y")


class PapersTest(unittest.TestCase):

    def taken(self, told, others):
        """What is told is a claim with its paper, which the checker takes, and not with the other words."""
        self.assertIs(type(told), tuple)
        claim, paper = told
        self.assertIs(type(claim), tuple)
        self.assertIs(holds(claim, paper), True)
        for other in others:
            self.assertNotEqual(claim[0], other[0])
            self.assertIs(holds(other, paper), False)
        return claim, paper


class Goes(PapersTest):

    def test_a_row_or_a_round(self):
        self.assertEqual(paper_goes((S, T), 1), (("goes", (S, T), 1), (S, T)))
        claim, paper = paper_goes(CROSSING, 1)
        self.assertEqual(claim, ("goes not", CROSSING, 1))
        self.assertEqual(set(paper), {1, 3, 4, 6})
        self.assertEqual(paper_goes(CROSSING, 2)[0], ("goes", CROSSING, 2))

    def test_as_the_question_tells(self):
        words = {"row": "goes", "round": "goes not"}
        found = {"row": 0, "round": 0}
        stories = chance_rows(320, 60, 16, "ab", "w", True, 0.1) + chance_rows(321, 40, 32, "abcde", "xy", True, 0.2)
        for story in stories:
            for rooms in (1, 2, 3, 40):
                told = kept(self, [story, rooms], paper_goes)
                word, shown = run_within(story, rooms)
                self.assertEqual(told[0], (words[word], story, rooms))
                other = ("goes not" if word == "row" else "goes", story, rooms)
                self.taken(told, [other])
                # And no right row is a round.
                self.assertIs(holds(other, shown), False)
                found[word] += 1
        self.assertGreater(min(found.values()), 20)

    def test_no_rooms(self):
        for rooms in wrong_rooms():
            with self.assertRaises(NoRooms):
                paper_goes((S, T), rooms)


class OfBooks(PapersTest):

    def test_strays(self):
        self.assertEqual(paper_strays(PAIRS, None), (("stray", PAIRS, None, row_from("a!b:x c!d:y")), ("c", "a")))
        one = told_book("a>b:w")
        self.assertEqual(paper_strays(one, 1), (("sound", one, 1), ((((), ()), 0), (((S,), ()), 0), (((S,), (T,)), 0))))

    def test_stuck(self):
        one = told_book("a>b:w", "b>a:w")
        self.assertEqual(paper_stuck(one, None), (("stuck", one, None, row_from("a!b:w b!a:w")), None))
        one = told_book("a>b:w")
        self.assertEqual(paper_stuck(one, 1),
                         (("moves", one, 1), ((((), ()), S), (((S,), ()), T), (((S,), (T,)), None))))

    def test_unasked(self):
        claim, paper = paper_unasked(PAIRS, 1)
        self.assertEqual(claim, ("unasked", PAIRS, 1, row_from("a!b:x c!d:y b?a:x d?c:y")))
        self.assertEqual(paper[1], (0, 0, 1, 1))
        one = told_book("a>b:w")
        self.assertEqual(paper_unasked(one, 1),
                         (("closed", one, 1), ((((), ()), None), (((S,), ()), None), (((S,), (T,)), 0))))

    def test_as_the_questions_tell(self):
        found = {}
        for book in small_books() + (sound_in_one_room(), closed_in_one_room()):
            for rooms in (None, 1, 2):
                for ask, question in ((paper_strays, stray), (paper_stuck, stuck), (paper_unasked, unasked)):
                    claim, paper = kept(self, [book, rooms], ask)
                    told = question(book, rooms)
                    self.assertEqual(claim[:3], (told[0], book, rooms))
                    self.assertEqual(claim[3:], told[1:2] if told[0] in ("stray", "stuck", "unasked") else ())
                    shown = {"stray": told[-1], "stuck": None, "unasked": told[2:]}.get(told[0], told[-1])
                    self.assertEqual(paper, shown)
                    self.taken((claim, paper), self.others(claim))
                    self.assertEqual(ask(book, rooms), (claim, paper))
                    found[claim[0]] = found.get(claim[0], 0) + 1
        self.assertEqual(len(found), 6)
        self.assertGreater(min(found.values()), 20)

    def others(self, claim):
        """The other claims of the same question."""
        word, book, rooms = claim[:3]
        other = {"sound": "stray", "stray": "sound", "moves": "stuck", "stuck": "moves", "closed": "unasked",
                 "unasked": "closed"}[word]
        if other in ("sound", "moves", "closed"):
            return [(other, book, rooms)]
        return [(other, book, rooms, run) for run in ((),) + book]

    def test_no_rooms(self):
        for rooms in wrong_rooms():
            for ask in (paper_strays, paper_stuck, paper_unasked):
                for book in (PAIRS, endless_book()):
                    with self.assertRaises(NoRooms):
                        ask(book, rooms)

    def test_too_many(self):
        for ask in (paper_strays, paper_stuck, paper_unasked):
            for book in (standings_book(3001), endless_book()):
                for rooms in (None, 40):
                    with self.assertRaises(TooMany):
                        ask(book, rooms)

    def test_three_thousand(self):
        book = standings_book(3000)
        for ask in (paper_strays, paper_stuck, paper_unasked):
            claim, paper = ask(book, None)
            self.assertEqual(len(paper), 3000)
            self.assertIs(holds(claim, paper), True)


class Seen(PapersTest):

    def test_few(self):
        other = told_book("a>b:x c>d:y", "a>b:y c>d:x")
        self.assertEqual(paper_seen(PAIRS, other), (("alike", PAIRS, other), None))
        self.assertEqual(paper_seen(PAIRS, told_book("-")), (("parted", PAIRS, told_book("-")), ("a", ())))

    def test_as_the_question_tells(self):
        books = small_books()
        found = {"alike": 0, "parted": 0}
        for at, book in enumerate(books):
            for other in (book, books[at - 1], books[at - 2]):
                told = kept(self, [book, other], paper_seen)
                answer = seen(book, other)
                self.assertEqual(told, ((answer[0], book, other), answer[1:] or None))
                self.taken(told, [("parted" if answer[0] == "alike" else "alike", book, other)])
                found[answer[0]] += 1
        self.assertGreater(min(found.values()), 20)


class Renamed(PapersTest):

    def test_as_the_question_tells(self):
        chance = random.Random(322)
        books = small_books()
        found = {True: 0, False: 0}
        for at, book in enumerate(books):
            hands = hands_in(book)
            way = tuple(zip(hands, chance.sample("abcdef", len(hands))))
            for other in (book, named_otherwise(book, way), books[at - 1]):
                told = kept(self, [book, other], paper_renamed)
                ways = renamings(book, other)
                if ways:
                    self.assertEqual(told[0], ("renamed", book, other))
                    self.assertIn(told[1], ways)
                    self.taken(told, [("alike", book, other)] if told[1] else [])
                else:
                    self.assertIs(told, None)
                found[told is None] += 1
        self.assertGreater(min(found.values()), 20)

    def test_none(self):
        self.assertIs(paper_renamed(told_book("a>b:x"), told_book("a>b:y")), None)
        self.assertEqual(paper_renamed(told_book("-"), told_book("-")), (("renamed", ((),), ((),)), ()))


class Mends(PapersTest):

    def test_as_the_question_tells(self):
        found = {True: 0, False: 0}
        for book in small_books():
            told = kept(self, [book], paper_mends)
            way = mend(book)
            found[told is None] += 1
            if way is None:
                self.assertIs(told, None)
                continue
            made = opened(book, *way)
            self.assertEqual(told, (("mends", book) + way, (stray(made, None)[1], unasked(made, None)[1])))
            self.taken(told, [("sound", book, None), ("closed", book, None)])
            self.assertEqual(paper_mends(book), told)
        self.assertGreater(min(found.values()), 20)

    def test_exact(self):
        for book in (told_book("-"), told_book("a>b:x", "a>b:y"), standings_book(3000)):
            self.assertIs(paper_mends(book), None)

    def test_too_many(self):
        for book in (standings_book(3001), endless_book()):
            with self.assertRaises(TooMany):
                paper_mends(book)


if __name__ == "__main__":
    unittest.main()
