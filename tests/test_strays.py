import unittest

from talehands.errors import NoRooms, TooMany
from talehands.strays import stray
from tests.helpers import (all_runs, all_standings, begins, endless_book, hands_in, kept, row_from, seen_by, sent,
                           small_books, sound_in_one_room, standing_behind, standings_book, taken, told_book, wrong_rooms)


def strays(book, run):
    """Whether the run is a beginning of no story."""
    return not any(begins(run, story) for story in book)


def parting(book, run, story):
    """The least hand whose view of the run is no beginning of its view of the story."""
    for hand in hands_in(book):
        seen = seen_by(run, hand)
        if seen_by(story, hand)[:len(seen)] != seen:
            return hand


class Stray(unittest.TestCase):

    def test_sound(self):
        one = told_book("a>b:w")
        send, take = sent("a b w"), taken("a b w")
        self.assertEqual(stray(one, None), ("sound", ((((), ()), 0), (((send,), ()), 0), (((send,), (take,)), 0))))
        self.assertEqual(stray(told_book("-"), None), ("sound", (((), 0),)))

    def test_the_first_story(self):
        one = told_book("-", "a>b:w a>b:v", "a>b:w", "a>b:x")
        word, table = stray(one, None)
        self.assertEqual(word, "sound")
        numbers = dict(table)
        # The story of two letters is the second one, ahead of that of its first letter alone.
        for text, number in (("-", 0), ("a!b:w", 1), ("a>b:w", 1), ("a>b:w a!b:v", 1), ("a!b:w a!b:v", 1), ("a!b:x", 3)):
            self.assertEqual(numbers[standing_behind(one, row_from(text))], number)

    def test_pairs_of_hands_that_choose_alone(self):
        one = told_book("a>b:x c>d:x", "a>b:y c>d:y")
        word, run, hands = stray(one, None)
        self.assertEqual(word, "stray")
        self.assertIn(sorted(run), ([sent("a b x"), sent("c d y")], [sent("a b y"), sent("c d x")]))
        self.assertEqual(hands, ("c", "a") if sent("a b x") in run else ("a", "c"))

    def test_both_begin(self):
        one = told_book("a>b:w", "b>a:w")
        word, run, hands = stray(one, 1)
        self.assertEqual((word, sorted(run), hands), ("stray", [sent("a b w"), sent("b a w")], ("b", "a")))

    def test_rooms_that_make_a_book_sound(self):
        one = sound_in_one_room()
        self.assertEqual(stray(one, 1)[0], "sound")
        for rooms in (2, 3, 40, None):
            self.assertEqual(stray(one, rooms)[0], "stray")

    def test_held_against_all_runs(self):
        found = {"sound": 0, "stray": 0}
        for one in small_books():
            for rooms in (None, 1, 2):
                found[self.hold(one, rooms)] += 1
        self.assertGreater(min(found.values()), 50)

    def hold(self, one, rooms):
        """Hold what is told against all runs; the word of it."""
        told = stray(one, rooms)
        self.assertIs(type(told), tuple)
        astray = [run for run in all_runs(one, rooms) if strays(one, run)]
        if not astray:
            word, table = told
            self.assertEqual(word, "sound")
            self.assertIs(type(table), tuple)
            self.assertEqual(table, self.table(one, rooms))
            return word
        word, run, hands = told
        self.assertEqual(word, "stray")
        self.assertIn(run, astray)
        self.assertEqual(len(run), min(map(len, astray)))
        self.assertIs(type(hands), tuple)
        self.assertEqual(hands, tuple(parting(one, run, story) for story in one))
        return word

    def table(self, one, rooms):
        numbers = {}
        for run in all_runs(one, rooms):
            first = min(number for number, story in enumerate(one) if begins(run, story))
            numbers[standing_behind(one, run)] = first
        return tuple((standing, numbers[standing]) for standing in all_standings(one, rooms))

    def test_told_again(self):
        for one in (sound_in_one_room(), told_book("a>b:w", "b>a:w")):
            for rooms in (1, None):
                told = kept(self, [one, rooms], stray)
                self.assertEqual(kept(self, [one, rooms], stray), told)


class Refused(unittest.TestCase):

    def test_no_rooms(self):
        for rooms in wrong_rooms():
            for one in (told_book("a>b:w"), endless_book()):
                with self.assertRaises(NoRooms):
                    stray(one, rooms)

    def test_three_thousand_are_let(self):
        word, table = stray(standings_book(3000), None)
        self.assertEqual((word, len(table)), ("sound", 3000))

    def test_more_ahead_of_any_answer(self):
        # The last one strays by two deeds.
        for one in (standings_book(3001), endless_book()):
            for rooms in (None, 40):
                with self.assertRaises(TooMany):
                    stray(one, rooms)


if __name__ == "__main__":
    unittest.main()
