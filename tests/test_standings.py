import itertools
import unittest

from talehands.errors import NoRooms, TooMany
from talehands.standings import goes_on, is_run, is_whole_standing, standing_of, standings
from tests.helpers import (Odd, all_runs, all_standings, any_things, chance_books, deeds_on, endless_book, hands_in,
                           is_whole_behind, keeps_to, kept, least_alike, row_from, seen_by, sent, small_books,
                           sound_in_one_room, standing_behind, standings_book, taken, told_book, wrong_rooms)

S, T = sent("a b w"), taken("a b w")


class IsRun(unittest.TestCase):

    def test_told_stories_and_their_beginnings(self):
        for one in [told_book("-"), told_book("a>b:x", "a>b:y b>a:z")] + chance_books(110, 20, 6, 32, "abcde"):
            for story in one:
                for many in range(len(story) + 1):
                    self.assertIs(is_run(one, None, story[:many]), True)
                    self.assertIs(is_run(one, 1, story[:many]), keeps_to(story[:many], 1))
                    self.assertIs(is_run(one, 40, story[:many]), True)

    def test_runs_that_mix_stories(self):
        one = told_book("a>b:x c>d:x", "a>b:y c>d:y")
        self.assertIs(is_run(one, None, row_from("a>b:x c>d:y")), True)
        self.assertIs(is_run(one, 1, row_from("c!d:x a>b:y")), True)
        self.assertIs(is_run(one, None, row_from("a>b:x a>b:y")), False)
        one = told_book("a>b:w", "b>a:w")
        self.assertIs(is_run(one, None, row_from("a!b:w b!a:w")), True)
        self.assertIs(is_run(one, None, row_from("a!b:w b!a:w a?b:w")), False)

    def test_rows_that_cannot_go(self):
        one = told_book("a>b:w a>b:v")
        for wrong in (row_from("b?a:w"), row_from("b?a:w a!b:w"), row_from("a!b:w b?a:w b?a:w"), row_from("a!b:w a!b:v b?a:v")):
            self.assertIs(is_run(one, None, wrong), False)

    def test_a_view_that_is_no_beginning(self):
        one = told_book("a>b:w a>c:v")
        for wrong in (row_from("a!b:v"), row_from("a!c:v"), row_from("a>b:w a>b:w"), row_from("a>b:w a>c:v a!b:w"), row_from("b!a:w"), row_from("d!a:w"),
                      row_from("a!d:w"), row_from("a>b:w d>e:w")):
            self.assertIs(is_run(one, None, wrong), False)
        self.assertIs(is_run(one, None, ()), True)
        self.assertIs(is_run(told_book("-"), None, ()), True)
        self.assertIs(is_run(told_book("-"), None, (S,)), False)

    def test_within_rooms(self):
        one = told_book("a>b:w a>b:w a>b:w")
        self.assertIs(is_run(one, 1, (S, T, S, T)), True)
        self.assertIs(is_run(one, 1, (S, S)), False)
        self.assertIs(is_run(one, 1, (S, S, T, T)), False)
        self.assertIs(is_run(one, 2, (S, S, T, S)), True)
        self.assertIs(is_run(one, 2, (S, S, S, T)), False)
        self.assertIs(is_run(one, 3, (S, S, S, T)), True)
        self.assertIs(is_run(one, None, (S, S, S, T)), True)

    def test_just_the_runs(self):
        for one in small_books()[:30]:
            deeds = sorted({deed for story in one for deed in story})
            for rooms in (None, 1, 2):
                runs = set(all_runs(one, rooms))
                for many in range(4):
                    for thing in itertools.product(deeds, repeat=many):
                        self.assertIs(is_run(one, rooms, thing), thing in runs)
                for run in runs:
                    self.assertIs(is_run(one, rooms, run), True)

    def test_things_of_any_kind(self):
        one = told_book("a>b:w")
        for thing in any_things() + [0, 1, "a", "a>b:w", S, [S], [S, T], ((S, T),), (S, list(T)), Odd()]:
            self.assertIs(is_run(one, None, thing), False, repr(thing))
            self.assertIs(is_run(one, 1, (S, thing)), False, repr(thing))


class Standings(unittest.TestCase):

    def test_standing_of(self):
        one = told_book("a>b:x c>a:y", "-")
        self.assertEqual(standing_of(one, ()), ((), (), ()))
        self.assertEqual(standing_of(one, row_from("c!a:y a!b:x")), ((sent("a b x"),), (), (sent("c a y"),)))
        self.assertEqual(standing_of(one, row_from("a>b:x c>a:y")), (row_from("a!b:x a?c:y"), row_from("b?a:x"), row_from("c!a:y")))
        self.assertEqual(standing_of(told_book("-"), ()), ())

    def test_standings_of_all_runs(self):
        for one in small_books()[::3]:
            for run in all_runs(one, None):
                told = standing_of(one, run)
                self.assertIs(type(told), tuple)
                self.assertEqual(told, tuple(seen_by(run, hand) for hand in hands_in(one)))
                # Alike runs have the same least row, so the same standing.
                self.assertEqual(told, standing_of(one, least_alike(run)))

    def test_few(self):
        self.assertEqual(standings(told_book("-"), None), ((),))
        self.assertEqual(standings(told_book("a>b:w"), None), (((), ()), ((S,), ()), ((S,), (T,))))
        two = (S, S)
        self.assertEqual(standings(told_book("a>b:w a>b:w"), 1),
                         (((), ()), ((S,), ()), ((S,), (T,)), (two, (T,)), (two, (T, T))))
        self.assertEqual(standings(told_book("a>b:w a>b:w"), 2),
                         (((), ()), ((S,), ()), ((S,), (T,)), (two, ()), (two, (T,)), (two, (T, T))))

    def test_all_that_are_reached(self):
        for one in small_books():
            for rooms in (None, 1, 2):
                told = standings(one, rooms)
                self.assertIs(type(told), tuple)
                self.assertEqual(told, all_standings(one, rooms))
            self.assertEqual(standings(one, 40), standings(one, None))

    def test_goes_on(self):
        for one in small_books():
            for rooms in (None, 1, 2):
                for standing in all_standings(one, rooms):
                    told = goes_on(one, rooms, standing)
                    self.assertIs(type(told), tuple)
                    self.assertEqual(told, deeds_on(one, rooms, standing))

    def test_whole(self):
        found = {True: 0, False: 0}
        for one in small_books():
            for run in all_runs(one, None):
                whole = is_whole_behind(one, run)
                self.assertIs(is_whole_standing(one, standing_behind(one, run)), whole)
                found[whole] += 1
        self.assertGreater(min(found.values()), 100)

    def test_whole_of_few(self):
        one = told_book("a>b:w", "a>b:w a>b:w", "-")
        for text, whole in (("-", True), ("a!b:w", False), ("a>b:w", True), ("a!b:w a>b:w", False), ("a>b:w a>b:w", True)):
            self.assertIs(is_whole_standing(one, standing_of(one, row_from(text))), whole)
        one = told_book("a>b:w a>b:w")
        for text, whole in (("-", False), ("a>b:w", False), ("a>b:w a>b:w", True)):
            self.assertIs(is_whole_standing(one, standing_of(one, row_from(text))), whole)
        # Both views are told ones, and a letter is under way.
        one = told_book("a>b:w a>b:w", "a>b:w", "-")
        self.assertIs(is_whole_standing(one, standing_of(one, row_from("a!b:w a>b:w"))), False)
        self.assertIs(is_whole_standing(told_book("-"), ()), True)

    def test_long_stories(self):
        for one in chance_books(111, 10, 2, 32, "abc"):
            told = standings(one, None)
            self.assertEqual(list(told), sorted(set(told)))
            for story in one:
                for many in range(len(story) + 1):
                    self.assertIn(standing_behind(one, story[:many]), told)

    def test_told_again(self):
        one = sound_in_one_room()
        first = kept(self, [one, 1], standings)
        many = kept(self, [one, None], standings)
        self.assertGreater(len(many), len(first))
        self.assertEqual(kept(self, [one, 1], standings), first)
        standing = first[3]
        self.assertEqual(kept(self, [one, 1, standing], goes_on), kept(self, [one, 1, standing], goes_on))
        kept(self, [one, standing], is_whole_standing)
        kept(self, [one, one[0]], standing_of)
        for thing in ([S], (S, [T]), {"a": [S]}):
            self.assertIs(kept(self, [one, 1, thing], is_run), False)


class Refused(unittest.TestCase):

    def test_three_thousand_are_let(self):
        for many in (1, 3, 500, 2999, 3000):
            self.assertEqual(len(standings(standings_book(many), None)), many)

    def test_more_than_three_thousand(self):
        for one in (standings_book(3001), standings_book(3002), standings_book(4000), endless_book()):
            for rooms in (None, 40):
                with self.assertRaises(TooMany):
                    standings(one, rooms)

    def test_fewer_within_rooms(self):
        one = standings_book(3001)
        self.assertLess(len(standings(one, 1)), len(standings(one, 2)))

    def test_no_rooms(self):
        one = told_book("a>b:w")
        for rooms in wrong_rooms():
            for ask in (lambda: is_run(one, rooms, (S, T)), lambda: is_run(one, rooms, None),
                        lambda: goes_on(one, rooms, ((), ())), lambda: standings(one, rooms),
                        lambda: standings(endless_book(), rooms)):
                with self.assertRaises(NoRooms):
                    ask()

    def test_one_and_forty_are_let(self):
        for rooms in (1, 2, 39, 40, None):
            self.assertEqual(len(standings(told_book("a>b:w"), rooms)), 3)
            self.assertEqual(goes_on(told_book("a>b:w"), rooms, ((), ())), (S,))
            self.assertIs(is_run(told_book("a>b:w"), rooms, (S, T)), True)


if __name__ == "__main__":
    unittest.main()
