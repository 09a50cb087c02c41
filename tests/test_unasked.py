import unittest

from talehands.errors import NoRooms, TooMany
from talehands.rooms import run_within
from talehands.strays import stray
from talehands.stucks import stuck
from talehands.unasked import all_unasked, unasked
from tests.helpers import (all_runs, all_seen, all_standings, closed_in_one_room, endless_book, hands_in, kept,
                           least_alike, row_from, seen_by, sent, small_books, sound_in_one_room, standing_behind,
                           standings_book, taken, told_book, whole_runs, wrong_rooms)


class Unasked(unittest.TestCase):

    def test_closed(self):
        send, take = sent("a b w"), taken("a b w")
        self.assertEqual(unasked(told_book("a>b:w"), None),
                         ("closed", ((((), ()), None), (((send,), ()), None), (((send,), (take,)), 0))))
        self.assertEqual(unasked(told_book("a>b:w", "-"), 1),
                         ("closed", ((((), ()), 0), (((send,), ()), None), (((send,), (take,)), 1))))
        self.assertEqual(unasked(told_book("-"), None), ("closed", (((), 0),)))

    def test_pairs_of_hands_that_choose_alone(self):
        one = told_book("a>b:x c>d:x", "a>b:y c>d:y")
        first, second = least_alike(row_from("a>b:x c>d:y")), least_alike(row_from("a>b:y c>d:x"))
        word, story, run, numbers = unasked(one, 1)
        self.assertEqual((word, story, numbers), ("unasked", first, (0, 0, 1, 1)))
        self.assertEqual(all_seen(run), all_seen(first))
        self.assertEqual(all_unasked(one, 1), (first, second))

    def test_the_first_story_with_the_view(self):
        one = told_book("a>b:x c>d:x", "a>b:x c>d:z", "a>b:y c>d:y", "a>b:y c>d:z")
        word, story, run, numbers = unasked(one, None)
        self.assertEqual(story, least_alike(row_from("a>b:x c>d:y")))
        self.assertEqual(numbers, (0, 0, 2, 2))

    def test_the_fewest_deeds_go_ahead_of_the_least(self):
        one = told_book("a>b:x c>d:x c>d:x", "a>b:y c>d:y")
        word, story, run, numbers = unasked(one, None)
        self.assertEqual([len(found) for found in all_unasked(one, None)], [4, 6])
        self.assertEqual(story, least_alike(row_from("a>b:x c>d:y")))
        one = told_book("a>b:x c>d:x", "a>b:y c>d:y c>d:y")
        word, story, run, numbers = unasked(one, None)
        self.assertEqual([len(found) for found in all_unasked(one, None)], [6, 4])
        self.assertEqual(story, least_alike(row_from("a>b:y c>d:x")))

    def test_the_least_of_the_fewest_deeds(self):
        one = told_book("a>b:p c>d:z", "a>b:q c>d:y", "a>b:r c>d:x")
        self.assertEqual(unasked(one, None)[1], least_alike(row_from("a>b:p c>d:x")))
        self.assertEqual(unasked(one, 1)[1], all_unasked(one, 1)[0])

    def test_rooms_that_make_a_book_closed(self):
        one = closed_in_one_room()
        self.assertEqual(unasked(one, 1)[0], "closed")
        self.assertEqual(all_unasked(one, 1), ())
        for rooms in (2, 3, 40, None):
            word, story, run, numbers = unasked(one, rooms)
            self.assertEqual(story, least_alike(row_from("a!b:p a!b:p b!a:q b!a:q b?a:p b?a:p a?b:q a?b:q")))
            self.assertEqual(all_unasked(one, rooms), (story,))

    def test_the_run_is_within_the_rooms(self):
        one = told_book("a>b:x a>b:x c>d:x", "a>b:y c>d:y")
        word, story, run, numbers = unasked(one, 1)
        self.assertEqual(story, least_alike(row_from("a>b:y c>d:x")))
        for story in all_unasked(one, 1):
            self.assertIn(story, whole_runs(one, None))
        one = told_book("a>b:x a>b:x c>d:x", "a>b:y a>b:y c>d:y")
        word, story, run, numbers = unasked(one, 1)
        self.assertIn(run, all_runs(one, 1))
        self.assertNotEqual(run, story)
        self.assertNotIn(story, all_runs(one, 1))

    def test_held_against_all_whole_standings(self):
        found = {"closed": 0, "unasked": 0}
        for one in small_books():
            for rooms in (None, 1, 2):
                found[self.hold(one, rooms)] += 1
        self.assertGreater(min(found.values()), 50)

    def hold(self, one, rooms):
        """Hold what is told against all whole standings; the word of it."""
        stories = sorted(story for story in whole_runs(one, rooms) if story not in one)
        every = all_unasked(one, rooms)
        self.assertIs(type(every), tuple)
        self.assertEqual(every, tuple(stories))
        told = unasked(one, rooms)
        self.assertIs(type(told), tuple)
        if not stories:
            word, table = told
            self.assertEqual(word, "closed")
            self.assertEqual(table, self.table(one, rooms))
            return word
        word, story, run, numbers = told
        self.assertEqual(word, "unasked")
        self.assertEqual(story, min(stories, key=lambda row: (len(row), row)))
        self.assertIn(run, all_runs(one, rooms))
        self.assertEqual(all_seen(run), all_seen(story))
        self.assertIs(type(numbers), tuple)
        firsts = [[seen_by(other, hand) == seen_by(run, hand) for other in one].index(True) for hand in hands_in(one)]
        self.assertEqual(numbers, tuple(firsts))
        return word

    def table(self, one, rooms):
        numbers = {standing_behind(one, story): number for number, story in enumerate(one)}
        return tuple((standing, numbers.get(standing)) for standing in all_standings(one, rooms))

    def test_exact_just_where_closed_and_never_stuck(self):
        found = {True: 0, False: 0}
        for one in small_books():
            for rooms in (None, 1, 2):
                if rooms is None or all(run_within(story, rooms)[0] == "row" for story in one):
                    closed = unasked(one, rooms)[0] == "closed"
                    exact = stray(one, rooms)[0] == "sound" and closed
                    self.assertEqual(exact, closed and stuck(one, rooms)[0] == "moves")
                    found[exact] += 1
        self.assertGreater(min(found.values()), 50)
        self.assertEqual((stray(sound_in_one_room(), 1)[0], unasked(sound_in_one_room(), 1)[0]), ("sound", "closed"))

    def test_sound_and_not_closed(self):
        one = told_book("a>b:x c>d:x", "a>b:x", "c>d:x")
        self.assertEqual(stray(one, None)[0], "sound")
        self.assertEqual(all_unasked(one, None), ((),))
        # The story of both pairs is the first one, that of c and d the last one.
        self.assertEqual(unasked(one, None), ("unasked", (), (), (2, 2, 1, 1)))

    def test_told_again(self):
        for one in (closed_in_one_room(), told_book("a>b:x c>d:x", "a>b:y c>d:y")):
            for rooms in (1, None):
                told = kept(self, [one, rooms], unasked)
                every = kept(self, [one, rooms], all_unasked)
                self.assertEqual(kept(self, [one, rooms], unasked), told)
                self.assertEqual(kept(self, [one, rooms], all_unasked), every)


class Refused(unittest.TestCase):

    def test_no_rooms(self):
        for rooms in wrong_rooms():
            for one in (told_book("a>b:w"), endless_book()):
                for ask in (unasked, all_unasked):
                    with self.assertRaises(NoRooms):
                        ask(one, rooms)

    def test_three_thousand_are_let(self):
        word, table = unasked(standings_book(3000), None)
        self.assertEqual((word, len(table)), ("closed", 3000))
        self.assertEqual(all_unasked(standings_book(3000), None), ())

    def test_more_ahead_of_any_answer(self):
        for one in (standings_book(3001), endless_book()):
            for rooms in (None, 40):
                for ask in (unasked, all_unasked):
                    with self.assertRaises(TooMany):
                        ask(one, rooms)


if __name__ == "__main__":
    unittest.main()
