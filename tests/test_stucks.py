import unittest

from talehands.errors import NoRooms, TooMany
from talehands.rooms import run_within
from talehands.strays import stray
from talehands.stucks import stuck
from tests.helpers import (all_runs, all_standings, deeds_on, endless_book, is_whole_behind, kept, row_from, sent,
                           small_books, sound_in_one_room, standing_behind, standings_book, taken, told_book,
                           wrong_rooms)

CROSSING = "a!b:w a!b:w b!a:w b!a:w b?a:w b?a:w a?b:w a?b:w"


class Stuck(unittest.TestCase):

    def test_moves(self):
        send, take = sent("a b w"), taken("a b w")
        self.assertEqual(stuck(told_book("a>b:w"), None),
                         ("moves", ((((), ()), send), (((send,), ()), take), (((send,), (take,)), None))))
        self.assertEqual(stuck(told_book("-"), 1), ("moves", (((), None),)))

    def test_the_least_deed_also_behind_whole_standings(self):
        one = told_book("-", "a>b:w", "a>b:v", "b>a:v a>b:u")
        word, table = stuck(told_book("-", "a>b:w", "a>b:v"), None)
        self.assertEqual((word, table[0]), ("moves", (((), ()), sent("a b v"))))
        self.assertEqual(stuck(one, None)[0], "stuck")

    def test_both_begin(self):
        word, run = stuck(told_book("a>b:w", "b>a:w"), None)
        self.assertEqual((word, sorted(run)), ("stuck", [sent("a b w"), sent("b a w")]))

    def test_rooms_that_make_a_book_stuck(self):
        one = told_book(CROSSING)
        word, run = stuck(one, 1)
        self.assertEqual((word, sorted(run)), ("stuck", [sent("a b w"), sent("b a w")]))
        for rooms in (2, 40, None):
            self.assertEqual(stuck(one, rooms)[0], "moves")

    def test_rooms_that_make_a_book_move(self):
        self.assertEqual(stuck(sound_in_one_room(), 1)[0], "moves")
        self.assertEqual(stuck(sound_in_one_room(), None)[0], "stuck")

    def test_held_against_all_runs(self):
        found = {"moves": 0, "stuck": 0}
        for one in small_books():
            for rooms in (None, 1, 2):
                found[self.hold(one, rooms)] += 1
        self.assertGreater(min(found.values()), 50)

    def hold(self, one, rooms):
        """Hold what is told against all runs; the word of it."""
        told = stuck(one, rooms)
        self.assertIs(type(told), tuple)
        deeds = {standing: deeds_on(one, rooms, standing) for standing in all_standings(one, rooms)}
        still = [run for run in all_runs(one, rooms)
                 if not deeds[standing_behind(one, run)] and not is_whole_behind(one, run)]
        word, found = told
        self.assertIs(type(found), tuple)
        if not still:
            self.assertEqual(word, "moves")
            self.assertEqual(found, tuple((standing, min(deeds[standing], default=None)) for standing in sorted(deeds)))
        else:
            self.assertEqual(word, "stuck")
            self.assertIn(found, still)
            self.assertEqual(len(found), min(map(len, still)))
        return word

    def test_a_sound_book_is_never_stuck(self):
        found = 0
        for one in small_books():
            for rooms in (None, 1, 2):
                run = rooms is None or all(run_within(story, rooms)[0] == "row" for story in one)
                if stray(one, rooms)[0] == "sound" and run:
                    self.assertEqual(stuck(one, rooms)[0], "moves")
                    found += 1
        self.assertGreater(found, 50)

    def test_told_again(self):
        for one in (sound_in_one_room(), told_book("a>b:w", "b>a:w"), told_book(CROSSING)):
            for rooms in (1, None):
                told = kept(self, [one, rooms], stuck)
                self.assertEqual(kept(self, [one, rooms], stuck), told)

    def test_what_is_under_way_for_ever(self):
        # Both told views, and nobody takes the second letter.
        one = told_book("a>b:x a>b:y", "a>b:x b>c:z")
        word, run = stuck(one, None)
        self.assertEqual(word, "stuck")
        self.assertEqual(sorted(run), sorted(row_from("a>b:x a!b:y b>c:z")))


class Refused(unittest.TestCase):

    def test_no_rooms(self):
        for rooms in wrong_rooms():
            for one in (told_book("a>b:w"), endless_book()):
                with self.assertRaises(NoRooms):
                    stuck(one, rooms)

    def test_three_thousand_are_let(self):
        word, table = stuck(standings_book(3000), None)
        self.assertEqual((word, len(table)), ("moves", 3000))

    def test_more_ahead_of_any_answer(self):
        for one in (standings_book(3001), endless_book()):
            for rooms in (None, 40):
                with self.assertRaises(TooMany):
                    stuck(one, rooms)


if __name__ == "__main__":
    unittest.main()
