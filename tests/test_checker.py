import ast
import copy
import itertools
import pathlib
import random
import subprocess
import sys
import unittest

from talehands.checker import holds
from talehands.errors import TooMany
from talehands.papers import (paper_goes, paper_mends, paper_renamed, paper_seen, paper_stuck, paper_strays,
                              paper_unasked)
from tests.helpers import (Odd, all_runs, alike_rows, any_things, begins, book_from, chance_books, chance_rows,
                           closed_in_one_room, endless_book, hands_in, is_whole_behind, keeps_to, least_alike, letters,
                           must_come_ahead, named_otherwise, names, row_from, seen_by, sent, shuffled, small_books,
                           some_of, sound_in_one_room, standing_behind, standings_book, taken, told_ahead, told_book,
                           views_in, walked)
from tests.judging import chance_things, is_right, is_so, next_of, turned

ROOT = pathlib.Path(__file__).resolve().parent.parent
S, T = sent("a b w"), taken("a b w")
CROSSING = (sent("a b w"), sent("a b w"), sent("b a w"), sent("b a w"),
            taken("a b w"), taken("a b w"), taken("b a w"), taken("b a w"))
# Both pairs choose for themselves: it strays and has unasked stories.
PAIRS = told_book("a>b:x c>d:x", "a>b:y c>d:y")
EXACT = told_book("a>b:x b>a:yes", "a>b:x b>a:no", "a>b:y")
STUCK = told_book("a>b:hi", "b>a:no")


def sound_table(book, rooms=None):
    """The table that shows, by the first stories, that the book is sound."""
    found = walked(book, rooms)
    return tuple((standing, [begins(found[standing], story) for story in book].index(True))
                 for standing in sorted(found))


def moves_table(book, rooms=None):
    """The table that shows, by the least deeds, that the book is never stuck."""
    found = walked(book, rooms)
    return tuple((standing, min(next_of(book, rooms, found[standing]), default=None)) for standing in sorted(found))


def closed_table(book, rooms=None):
    """The table that shows that the book is closed."""
    numbers = {standing_behind(book, story): number for number, story in enumerate(book)}
    return tuple((standing, numbers.get(standing)) for standing in sorted(walked(book, rooms)))


def told_claims(book, rooms):
    """What the house tells of the book within the rooms."""
    return [paper_strays(book, rooms), paper_stuck(book, rooms), paper_unasked(book, rooms)]


class CheckerTest(unittest.TestCase):

    def takes(self, claim, paper):
        self.assertIs(holds(claim, paper), True, (claim, paper))

    def refuses(self, claim, paper):
        self.assertIs(holds(claim, paper), False, (claim, paper))

    def judged(self, claim, paper):
        """Hold the checker against plain walking; whether it takes the claim."""
        before = copy.deepcopy((claim, paper))
        told = holds(claim, paper)
        self.assertIs(told, is_right(claim, paper), (claim, paper))
        self.assertEqual((claim, paper), before)
        return told


class Goes(CheckerTest):

    def test_any_row_alike_within_the_rooms(self):
        taken_rows = 0
        for story in chance_rows(300, 40, 8, "abc", "xy", True) + [CROSSING[:1] + CROSSING[4:5]]:
            for rooms in (1, 2, 40, None):
                for row in alike_rows(story)[:60]:
                    self.assertIs(holds(("goes", story, rooms), row), keeps_to(row, rooms))
                    taken_rows += keeps_to(row, rooms)
        self.assertGreater(taken_rows, 500)

    def test_none_stands_for_as_many_as_may_be(self):
        chance = random.Random(301)
        for story in chance_rows(302, 40, 32, "abcde", "xy", True):
            self.takes(("goes", story, None), shuffled(chance, story))
            self.refuses(("goes not", story, None), story)
            self.refuses(("goes not", story, None), None)
            self.refuses(("goes not", story, None), ())

    def test_none_has_no_round(self):
        word, numbers = paper_goes(CROSSING, 1)[0][0], paper_goes(CROSSING, 1)[1]
        self.assertEqual(word, "goes not")
        self.takes(("goes not", CROSSING, 1), numbers)
        self.refuses(("goes not", CROSSING, None), numbers)
        for story in (CROSSING, (S, T), ()):
            for many in (2, 3):
                for numbers in itertools.permutations(range(len(story)), many):
                    self.refuses(("goes not", story, None), numbers)

    def test_rows_that_are_not_alike(self):
        story = row_from("a>b:x a>b:y")
        for row in ((), row_from("a>b:x"), row_from("a>b:y a>b:x"), row_from("a!b:x a!b:y b?a:y b?a:x"), story + story,
                    row_from("a!b:x a!b:y"), row_from("a>b:x a>c:y"), list(story), story[::-1], None, "a>b:x a>b:y",
                    (story,), story + (None,)):
            for rooms in (1, 2, None):
                self.refuses(("goes", story, rooms), row)

    def test_no_story(self):
        # Letters are left, a letter comes before it is sent, a list, a deed that is none.
        for wrong in ((S,), (S, T, S), (T, S), [S, T], (S, list(T)), (S, T, None), None, "a>b:w", S, ((S, T),), {}):
            for rooms in (1, None):
                self.refuses(("goes", wrong, rooms), wrong)
                self.refuses(("goes", wrong, rooms), (S, T))
                self.refuses(("goes", (S, T), rooms), wrong)
                self.refuses(("goes not", wrong, rooms), (0, 1))

    def test_no_rooms(self):
        for rooms in (0, 41, -1, 100, True, False, "1", "-", "", (), (1,), [1], {}, 10 ** 40):
            self.refuses(("goes", (S, T), rooms), (S, T))
            self.refuses(("goes not", CROSSING, rooms), (1, 4, 6, 3))
        for rooms in (1, 2, 39, 40, None):
            self.takes(("goes", (S, T), rooms), (S, T))

    def test_any_round(self):
        ahead = must_come_ahead(CROSSING, 1)
        rounds = self.rounds(ahead, len(CROSSING))
        self.assertGreater(len(rounds), 3)
        for numbers in rounds:
            self.takes(("goes not", CROSSING, 1), numbers)
            self.refuses(("goes not", CROSSING, 2), numbers)
            self.refuses(("goes not", CROSSING, 1), numbers[::-1])
            self.refuses(("goes not", CROSSING, 1), numbers + numbers)
            self.refuses(("goes not", CROSSING, 1), numbers + numbers[:1])
            self.refuses(("goes not", CROSSING, 1), list(numbers))
            self.refuses(("goes not", CROSSING, 1), tuple(map(str, numbers)))
            self.refuses(("goes", CROSSING, 1), numbers)
            if 1 in numbers:
                self.refuses(("goes not", CROSSING, 1), tuple(True if number == 1 else number for number in numbers))
            self.refuses(("goes not", CROSSING, 1), tuple(number - len(CROSSING) for number in numbers))

    def rounds(self, ahead, many):
        """All rounds of these pairs, from any of their numbers on."""
        found = []
        paths = [(number,) for number in range(many)]
        for path in paths:
            for first, second in ahead:
                if first == path[-1] and second == path[0] and len(path) > 1:
                    found.append(path)
                elif first == path[-1] and second not in path:
                    paths.append(path + (second,))
        return found

    def test_no_rounds(self):
        for numbers in ((), (0,), (1,), (1, 1), (1, 4), (4, 1), (1, 4, 6), (1, 4, 6, 3, 1), (1, 4, 6, 8), (1, 4, 6, -5),
                        (1, 4, 6, None), (1, 4, 6, "3"), (1, 4, 6, (3,)), (1, 3, 4, 6), None, 1, "1463", {},
                        (0, 5, 6, 3), (0, 4, 6, 3), (0, 1, 4, 6, 2, 3)):
            self.assertIs(holds(("goes not", CROSSING, 1), numbers), is_right(("goes not", CROSSING, 1), numbers))
            self.refuses(("goes not", (S, T), 1), numbers)

    def test_pairs_that_come_ahead_only_by_others(self):
        # The first sending comes ahead of the first taking of the same hand, but not right ahead.
        right = [numbers for numbers in self.rounds(must_come_ahead(CROSSING, 1), 8) if len(numbers) > 4]
        for numbers in right:
            for at in range(len(numbers)):
                fewer = numbers[:at] + numbers[at + 1:]
                self.assertIs(holds(("goes not", CROSSING, 1), fewer), is_right(("goes not", CROSSING, 1), fewer))


class Tables(CheckerTest):

    def test_other_right_papers(self):
        chance = random.Random(303)
        other = 0
        for book in small_books():
            for rooms in (None, 1, 2):
                for claim, paper in told_claims(book, rooms):
                    if len(claim) == 3:
                        table = self.other_table(chance, claim, paper)
                        self.takes(claim, table)
                        other += table != paper
        self.assertGreater(other, 100)

    def other_table(self, chance, claim, table):
        """A table of the same standings with other things that are right."""
        word, book, rooms = claim
        found = walked(book, rooms)
        if word == "sound":
            return tuple((standing, chance.choice([number for number, story in enumerate(book)
                                                   if begins(found[standing], story)])) for standing, told in table)
        if word == "moves":
            return tuple((standing, chance.choice(sorted(next_of(book, rooms, found[standing])) or [None]))
                         for standing, told in table)
        return table

    def test_tables_of_plain_walking(self):
        for book in (EXACT, told_book("-"), told_book("a>b:x"), told_book("a>b:x", "-")):
            for rooms in (None, 1, 3):
                self.takes(("sound", book, rooms), sound_table(book, rooms))
                self.takes(("moves", book, rooms), moves_table(book, rooms))
                self.takes(("closed", book, rooms), closed_table(book, rooms))

    def test_rows_turned(self):
        for word, made in (("sound", sound_table), ("moves", moves_table), ("closed", closed_table)):
            claim = (word, EXACT, None)
            table = made(EXACT)
            self.takes(claim, table)
            self.refuses(claim, list(table))
            self.refuses(claim, table[::-1])
            self.refuses(claim, dict(table))
            for at in range(len(table)):
                standing, told = table[at]
                self.refuses(claim, table[:at] + table[at + 1:])
                self.refuses(claim, table[:at] + table[at:at + 1] + table[at:])
                if at + 1 < len(table):
                    self.refuses(claim, table[:at] + table[at + 1:] + table[at:at + 1])
                for row in ([standing, told], (standing,), (standing, told, told), (list(standing), told), None,
                            (None, told), (0, told), ("", told), ({}, told), (standing[0], told), ((standing,), told),
                            (standing + ((),), told), (standing[:1], told), ((standing[0], None), told), standing,
                            (standing, (told,)), (standing, [told]), (standing, str(told)), (standing, {}),
                            (standing, -1), (standing, len(EXACT)), (standing, 10 ** 30), (standing, "0"),
                            (standing, True), (standing, False), (standing, sent("a b q")), (standing, list(S)),
                            (standing, ())):
                    self.refuses(claim, table[:at] + (row,) + table[at + 1:])
                none = table[:at] + ((standing, None),) + table[at + 1:]
                self.assertIs(holds(claim, none), told is None)

    def test_none_where_a_deed_can_go_on(self):
        # The first standing is whole, and a can send all the same.
        book = told_book("a>b:w", "-")
        table = moves_table(book)
        self.assertEqual(table[0], (((), ()), S))
        self.takes(("moves", book, None), table)
        self.refuses(("moves", book, None), ((((), ()), None),) + table[1:])

    def test_standings_that_are_not_reached(self):
        # The letter is taken that wasn't sent; a view that is none of the book's; within rooms of 1 two letters.
        table = sound_table(EXACT)
        for standing in ((((), (taken("a b x"),))), (((), (sent("b a no"),))), ((sent("a b q"),), ()),
                         ((sent("a b x"), taken("b a no")), (taken("a b x"),))):
            self.refuses(("sound", EXACT, None), tuple(sorted(table + ((standing, 0),))))
        two = told_book("a>b:x a>b:x")
        self.takes(("sound", two, 2), sound_table(two, 2))
        self.refuses(("sound", two, 1), sound_table(two, 2))
        self.refuses(("sound", two, 2), sound_table(two, 1))
        self.takes(("sound", two, None), sound_table(two, 2))
        self.refuses(("moves", two, 1), moves_table(two, 2))
        self.refuses(("closed", two, 1), closed_table(two, 2))

    def test_tables_that_show_what_is_not_so(self):
        # The stuck standing has None, the stray one some story, the unasked one None or some story.
        self.refuses(("moves", STUCK, None), moves_table(STUCK))
        self.assertIn(None, [deed for standing, deed in moves_table(STUCK)])
        for number in range(2):
            table = tuple((standing, number) for standing in sorted(walked(PAIRS)))
            self.refuses(("sound", PAIRS, None), table)
            firsts = []
            for standing, run in sorted(walked(PAIRS).items()):
                fits = [at for at, story in enumerate(PAIRS) if begins(run, story)] or [number]
                firsts.append((standing, fits[0]))
            self.refuses(("sound", PAIRS, None), tuple(firsts))
            whole = [(standing, number if told is None and is_whole_behind(PAIRS, walked(PAIRS)[standing]) else told)
                     for standing, told in closed_table(PAIRS)]
            self.refuses(("closed", PAIRS, None), tuple(whole))
        self.refuses(("closed", PAIRS, None), closed_table(PAIRS))

    def test_rooms_that_make_it_so(self):
        book = sound_in_one_room()
        self.takes(("sound", book, 1), sound_table(book, 1))
        for rooms in (2, 40, None):
            self.refuses(("sound", book, rooms), sound_table(book, 1))
        book = closed_in_one_room()
        self.takes(("closed", book, 1), closed_table(book, 1))
        for rooms in (2, 40, None):
            self.refuses(("closed", book, rooms), closed_table(book, 1))
            self.refuses(("closed", book, rooms), closed_table(book, rooms))

    def test_three_thousand_rows(self):
        for many, taking in ((3000, True), (3001, False)):
            book = standings_book(many)
            numbers = {standing_behind(book, story): number for number, story in enumerate(book)}
            found = walked(book, None, 5000)
            self.assertEqual(len(found), many)
            table = tuple((standing, numbers.get(standing)) for standing in sorted(found))
            self.assertIs(holds(("closed", book, None), table), taking)
            self.refuses(("closed", book, None), table[:3000] if not taking else table[:2999])

    def test_endless_books(self):
        for word in ("sound", "moves", "closed"):
            self.refuses((word, endless_book(), None), ())
            self.refuses((word, endless_book(), None), (((((), (), (), ())), None),) * 3000)
            self.refuses((word, endless_book(), None), sound_table(EXACT))

    def test_rooms_that_are_none(self):
        for rooms in (0, 41, -1, True, False, "1", "-", (), [], {}, (None,)):
            for word, table in (("sound", sound_table(EXACT)), ("moves", moves_table(EXACT)),
                                ("closed", closed_table(EXACT))):
                self.refuses((word, EXACT, rooms), table)
            self.refuses(("stray", PAIRS, rooms, row_from("a!b:x c!d:y")), ("c", "a"))
            self.refuses(("stuck", STUCK, rooms, row_from("a!b:hi b!a:no")), None)
            self.refuses(("unasked", PAIRS, rooms, least_alike(row_from("a>b:x c>d:y"))),
                         (row_from("a>b:x c>d:y"), (0, 0, 1, 1)))

    def test_books_that_are_none(self):
        first, second, third = EXACT
        for wrong in ((second, first, third), EXACT + EXACT[2:], (first, first, second, third), list(EXACT), (), None,
                      "a>b:x", EXACT[::-1], (first, second, third[:1]), (first, second, list(third)),
                      (first, second, third + third[1:]), (first, second, third + (None,)), dict.fromkeys(EXACT, 1)):
            self.refuses(("sound", wrong, None), sound_table(EXACT))
            self.refuses(("moves", wrong, None), moves_table(EXACT))
            self.refuses(("closed", wrong, None), closed_table(EXACT))
            self.refuses(("alike", EXACT, wrong), None)
            self.refuses(("alike", wrong, EXACT), None)
            self.refuses(("parted", wrong, PAIRS), ("a", ()))
            self.refuses(("parted", PAIRS, wrong), ("a", ()))
            self.refuses(("renamed", wrong, EXACT), (("a", "a"), ("b", "b")))
            self.refuses(("renamed", EXACT, wrong), (("a", "a"), ("b", "b")))
            self.refuses(("mends", wrong, "a", ()), (sound_table(EXACT), closed_table(EXACT)))

    def test_a_row_that_is_not_the_least(self):
        row = row_from("c>d:x a>b:x")
        self.assertNotEqual(row, least_alike(row))
        for book, taking in (((row,), False), ((least_alike(row),), True)):
            self.assertIs(holds(("sound", book, None), sound_table(book)), taking)
            self.assertIs(holds(("closed", book, None), closed_table(book)), taking)
            self.assertIs(holds(("alike", book, book), None), taking)


class Runs(CheckerTest):

    def test_strays(self):
        run = row_from("a!b:x c!d:y")
        self.takes(("stray", PAIRS, None, run), ("c", "a"))
        self.takes(("stray", PAIRS, 1, run[::-1]), ("c", "a"))
        for paper in (("a", "c"), ("c",), ("c", "a", "a"), ["c", "a"], (), None, ("d", "a"), ("c", "b"), ("c", ["a"]),
                      ("c", None), ("c", "A"), ("c", "e"), "ca", {"c": "a"}, ("c", 0), (("c",), ("a",))):
            self.refuses(("stray", PAIRS, None, run), paper)

    def test_any_hand_that_sees_otherwise(self):
        run = row_from("a>b:x c>d:y")
        for first in "abcd":
            for second in "abcd":
                self.assertIs(holds(("stray", PAIRS, None, run), (first, second)), first in "cd" and second in "ab")

    def test_any_run_that_strays(self):
        found = 0
        for book in small_books()[::3]:
            for run in all_runs(book, 2)[::7]:
                hands = [[hand for hand in hands_in(book) if seen_by(story, hand)[:len(seen_by(run, hand))]
                          != seen_by(run, hand)] for story in book]
                paper = tuple(parting[-1] if parting else "a" for parting in hands)
                self.assertIs(holds(("stray", book, 2, run), paper), all(hands))
                self.assertIs(holds(("stray", book, None, run), paper), all(hands))
                self.assertIs(holds(("stray", book, 1, run), paper), all(hands) and keeps_to(run, 1))
                found += all(hands)
        self.assertGreater(found, 30)

    def test_what_is_no_run(self):
        for run in (row_from("b?a:x"), row_from("a!b:q"), row_from("a>b:x a!b:y"), row_from("d!c:x"), row_from("e!f:x"),
                    row_from("a!e:x"), [S], None, "a!b:x", (None,), (S,), ((S,),), {}, 0,
                    row_from("a!b:x c!d:y b!a:x")):
            for paper in (("a", "a"), ("c", "a"), ("b", "b"), ("d", "d"), ("e", "e"), ("f", "f")):
                self.refuses(("stray", PAIRS, None, run), paper)
            self.refuses(("stuck", PAIRS, None, run), None)
            self.refuses(("unasked", PAIRS, None, run), (run, (0, 0, 1, 1)))

    def test_a_run_beyond_the_rooms(self):
        book = told_book("a>b:x a>b:x c>d:x", "a>b:y c>d:y")
        run = row_from("a!b:x a!b:x c!d:y")
        self.takes(("stray", book, 2, run), ("c", "a"))
        self.takes(("stray", book, None, run), ("c", "a"))
        self.refuses(("stray", book, 1, run), ("c", "a"))

    def test_a_run_that_strays_not(self):
        for run in ((), row_from("a!b:x"), row_from("a>b:x c>d:x")):
            for first in "abcd":
                for second in "abcd":
                    self.refuses(("stray", PAIRS, None, run), (first, second))

    def test_stuck(self):
        run = row_from("a!b:hi b!a:no")
        for rooms in (1, 2, None):
            self.takes(("stuck", STUCK, rooms, run), None)
            self.takes(("stuck", STUCK, rooms, run[::-1]), None)
            for wrong in ((), run[:1], run[1:], row_from("a>b:hi"), row_from("b>a:no"), list(run), run * 2):
                self.refuses(("stuck", STUCK, rooms, wrong), None)
            for paper in ((), [], False, 0, "", "-", "None", run, (None,)):
                self.refuses(("stuck", STUCK, rooms, run), paper)

    def test_stuck_within_rooms_only(self):
        book = (least_alike(CROSSING),)
        run = row_from("a!b:w b!a:w")
        self.takes(("stuck", book, 1, run), None)
        self.refuses(("stuck", book, 2, run), None)
        self.refuses(("stuck", book, None, run), None)
        self.refuses(("stuck", book, 1, row_from("a!b:w a!b:w b!a:w b!a:w")), None)

    def test_a_whole_standing_is_not_stuck(self):
        for book in (told_book("-"), told_book("a>b:x"), PAIRS):
            for run in all_runs(book, None):
                stuck = not next_of(book, None, run) and not is_whole_behind(book, run)
                self.assertIs(holds(("stuck", book, None, run), None), stuck)

    def test_views_that_end_with_letters_under_way(self):
        # Each hand has a view of the book, but one letter is never taken: no deed can go on.
        book = told_book("a>b:x a>b:x b>a:y", "a>b:x b>a:z")
        for run in all_runs(book, None):
            stuck = not next_of(book, None, run) and not is_whole_behind(book, run)
            self.assertIs(holds(("stuck", book, None, run), None), stuck)


class Unasked(CheckerTest):

    RUN = row_from("a>b:x c>d:y")
    STORY = least_alike(RUN)

    def test_any_right_paper(self):
        for run in alike_rows(self.STORY):
            for rooms in (1, 2, None):
                self.takes(("unasked", PAIRS, rooms, self.STORY), (run, (0, 0, 1, 1)))
        book = told_book("a>b:x c>d:x", "a>b:x", "c>d:x")
        for first in (0, 1, 2):
            for second in (0, 1, 2):
                numbers = (first, first, second, second)
                views = [seen_by(book[number], hand) for number, hand in zip(numbers, "abcd")]
                self.assertIs(holds(("unasked", book, None, ()), ((), numbers)), not any(views))

    def test_wrong_papers(self):
        claim = ("unasked", PAIRS, None, self.STORY)
        for paper in ((self.RUN, (0, 0, 0, 1)), (self.RUN, (1, 0, 1, 1)), (self.RUN, (0, 0, 1)),
                      (self.RUN, (0, 0, 1, 1, 1)), (self.RUN, [0, 0, 1, 1]), (self.RUN, (0, 0, True, 1)),
                      (self.RUN, (False, 0, 1, 1)), (self.RUN, (0, 0, 1, "1")), (self.RUN, (0, 0, 1, -1)),
                      (self.RUN, (0, 0, 1, 2)), (self.RUN, None), (self.RUN, (0, 0, 1, None)), (self.RUN,),
                      (self.RUN, (0, 0, 1, 1), None), [self.RUN, (0, 0, 1, 1)], (list(self.RUN), (0, 0, 1, 1)),
                      (self.RUN[:3], (0, 0, 1, 1)), ((), (0, 0, 1, 1)), None, (), {}, (None, (0, 0, 1, 1)),
                      (row_from("a>b:y c>d:x"), (1, 1, 0, 0)), ((0, 0, 1, 1), self.RUN)):
            self.refuses(claim, paper)

    def test_wrong_stories(self):
        paper = (self.RUN, (0, 0, 1, 1))
        self.takes(("unasked", PAIRS, None, self.STORY), paper)
        # Another row alike is not the least one.
        for story in (self.RUN, list(self.STORY), (), None, PAIRS[0], self.STORY[:2], self.STORY + (None,), "x"):
            self.refuses(("unasked", PAIRS, None, story), paper)
        # Told stories are not unasked.
        for number, story in enumerate(PAIRS):
            self.refuses(("unasked", PAIRS, None, story), (story, (number,) * 4))

    def test_letters_under_way(self):
        # Both views are told ones, a letter is under way: no story.
        book = told_book("a>b:w", "a>b:w a>b:w")
        run = row_from("a!b:w a!b:w b?a:w")
        self.refuses(("unasked", book, None, run), (run, (1, 0)))
        self.refuses(("unasked", book, None, run), (run, (0, 1)))

    def test_a_run_beyond_the_rooms(self):
        book = closed_in_one_room()
        claim, paper = paper_unasked(book, 2)
        self.takes(claim, paper)
        self.refuses(claim[:2] + (1,) + claim[3:], paper)
        book = told_book("a>b:x a>b:x c>d:x", "a>b:y a>b:y c>d:y")
        claim, paper = paper_unasked(book, 1)
        self.takes(claim, paper)
        self.takes(("unasked", book, 2, claim[3]), (claim[3], paper[1]))
        self.refuses(("unasked", book, 1, claim[3]), (claim[3], paper[1]))


class TwoBooks(CheckerTest):

    def test_alike(self):
        other = told_book("a>b:x c>d:y", "a>b:y c>d:x")
        both = book_from(PAIRS + other)
        for book in (PAIRS, other, both):
            for second in (PAIRS, other, both):
                self.takes(("alike", book, second), None)
                for paper in ((), False, 0, "", ("a", ()), ("a", (sent("a b x"),)), {}):
                    self.refuses(("alike", book, second), paper)
                    self.refuses(("parted", book, second), paper)
        self.refuses(("alike", PAIRS, EXACT), None)
        self.refuses(("alike", PAIRS, PAIRS[:1]), None)

    def test_any_view_that_parts(self):
        taking = 0
        for first, second in zip(small_books(), small_books()[1:]):
            for hand in sorted(set(hands_in(first) + hands_in(second) + ("q",))):
                ours, theirs = views_in(first, hand), views_in(second, hand)
                for view in set(ours + theirs) | {(), (S,)}:
                    parting = (view in ours) != (view in theirs)
                    self.assertIs(holds(("parted", first, second), (hand, view)), parting)
                    self.assertIs(holds(("parted", second, first), (hand, view)), parting)
                    self.refuses(("alike", first, second), (hand, view))
                    taking += parting
        self.assertGreater(taking, 500)

    def test_views_turned(self):
        first, second = told_book("a>b:x"), told_book("a>b:x", "-")
        self.takes(("parted", first, second), ("a", ()))
        self.takes(("parted", first, second), ("b", ()))
        for paper in (("c", ()), ("a", []), ["a", ()], ("a",), ("a", (), ()), (("a",), ()), (None, ()), ("A", ()),
                      None, (), ("a", None), ("a", (sent("a b x"),)), ("a", (sent("a b y"),)), ((), "a"), ({}, ()),
                      ("a", {}), ("a", "")):
            self.refuses(("parted", first, second), paper)

    def test_a_hand_that_just_one_has(self):
        self.takes(("parted", told_book("-"), told_book("a>b:x")), ("a", ()))
        self.takes(("parted", told_book("-"), told_book("a>b:x")), ("b", (taken("a b x"),)))
        self.refuses(("parted", told_book("-"), told_book("a>b:x")), ("c", ()))

    def test_renamed(self):
        book = told_book("a>b:x b>a:y", "a>c:z")
        way = (("a", "b"), ("b", "q"), ("c", "a"))
        other = named_otherwise(book, way)
        self.takes(("renamed", book, other), way)
        self.takes(("renamed", other, book), (("a", "c"), ("b", "a"), ("q", "b")))
        self.takes(("renamed", book, book), (("a", "a"), ("b", "b"), ("c", "c")))
        self.takes(("renamed", told_book("-"), told_book("-")), ())
        a, b, c = way
        for paper in (list(way), dict(way), (a, b), (b, c), (a, c, b), (a, b, c, c), (a, b, c, ("d", "d")),
                      (a, b, ("c", "b")), (a, b, ("c", "c")), (a, b, ["c", "a"]), (a, b, ("c",)),
                      (a, b, ("c", "a", "a")), (a, b, ("c", None)), (a, b, ("c", "")), (a, b, ("c", "A")),
                      (a, b, (["c"], "a")), (a, b, ("c", ["a"])), None, (), "abbqca", (a, b, None), (a, b, ("c", {})),
                      (("b", "a"), ("q", "b"), ("a", "c"))):
            self.refuses(("renamed", book, other), paper)
        self.refuses(("renamed", other, book), way)
        self.refuses(("renamed", book, book), way)
        self.refuses(("renamed", told_book("a>b:x"), told_book("a>b:y")), (("a", "a"), ("b", "b")))

    def test_any_renaming(self):
        ring = book_from([letters("a", "b", "w"), letters("b", "c", "w"), letters("c", "a", "w")])
        for way in ((("a", "a"), ("b", "b"), ("c", "c")), (("a", "b"), ("b", "c"), ("c", "a")),
                    (("a", "c"), ("b", "a"), ("c", "b"))):
            self.takes(("renamed", ring, ring), way)
        for way in ((("a", "a"), ("b", "c"), ("c", "b")), (("a", "b"), ("b", "a"), ("c", "c"))):
            self.refuses(("renamed", ring, ring), way)

    def test_names_that_make_two_hands_one(self):
        self.refuses(("renamed", told_book("a>b:x", "a>c:x"), told_book("a>b:x")), (("a", "a"), ("b", "b"), ("c", "b")))


class Mends(CheckerTest):

    def tables(self, book, leader, hands):
        made = told_ahead(book, leader, hands)
        return (sound_table(made), closed_table(made))

    def test_any_opening_that_mends(self):
        for leader in "abcd":
            others = [hand for hand in "abcd" if hand != leader]
            for hands in some_of(others):
                claim = ("mends", PAIRS, leader, hands)
                try:
                    paper = self.tables(PAIRS, leader, hands)
                except ValueError:
                    # No table shows it: one of the standings is a beginning of no story.
                    self.assertIs(is_so(claim), False)
                    continue
                self.assertIs(holds(claim, paper), is_so(claim))
        self.takes(("mends", PAIRS, "a", ("c",)), self.tables(PAIRS, "a", ("c",)))
        self.takes(("mends", PAIRS, "d", ("a", "b", "c")), self.tables(PAIRS, "d", ("a", "b", "c")))

    def test_exact_books(self):
        # Opened by no letters it is the book itself.
        self.takes(("mends", EXACT, "a", ()), (sound_table(EXACT), closed_table(EXACT)))
        self.takes(("mends", EXACT, "b", ()), (sound_table(EXACT), closed_table(EXACT)))
        self.takes(("mends", EXACT, "b", ("a",)), self.tables(EXACT, "b", ("a",)))
        self.refuses(("mends", EXACT, "b", ("a",)), (sound_table(EXACT), closed_table(EXACT)))
        self.refuses(("mends", EXACT, "b", ("a",)), self.tables(EXACT, "a", ("b",)))

    def test_leaders_and_hands_turned(self):
        paper = self.tables(PAIRS, "a", ("b", "c"))
        self.takes(("mends", PAIRS, "a", ("b", "c")), paper)
        for leader, hands in (("a", ("c", "b")), ("a", ["b", "c"]), ("a", ("b", "b", "c")), ("a", ("b", "c", "c")),
                              ("a", ("a", "b", "c")), ("a", ("b", "c", "e")), ("a", "bc"), ("a", None), ("a", {"b": 1}),
                              ("a", ("b", ["c"])), ("a", ("b", None)), ("a", ("c",)), ("a", ()), ("b", ("b", "c")),
                              ("e", ("b", "c")), (None, ("b", "c")), (("a",), ("b", "c")), (["a"], ("b", "c")),
                              ("A", ("b", "c")), ("", ("b", "c")), ({}, ("b", "c")), ("b", ("a", "c"))):
            self.refuses(("mends", PAIRS, leader, hands), paper)

    def test_no_hands(self):
        table = (((), 0),)
        self.takes(("sound", told_book("-"), None), table)
        for leader in ("a", None, (), ""):
            self.refuses(("mends", told_book("-"), leader, ()), (table, table))

    def test_papers_turned(self):
        claim = ("mends", PAIRS, "a", ("c",))
        sound, closed = self.tables(PAIRS, "a", ("c",))
        self.takes(claim, (sound, closed))
        for paper in ((closed, sound), (sound, sound), (closed, closed), (sound,), (sound, closed, None),
                      [sound, closed], (list(sound), closed), (sound, list(closed)), (sound[1:], closed),
                      (sound, closed[:-1]), None, (), sound, (sound, None), (None, closed),
                      (sound + sound[-1:], closed), (sound[::-1], closed)):
            self.refuses(claim, paper)
        for at in range(len(closed)):
            standing, number = closed[at]
            for other in (None, 0, 1, True, False, 2, "0"):
                turning = closed[:at] + ((standing, other),) + closed[at + 1:]
                same = other is None and number is None or type(other) is int and other == number
                self.assertIs(holds(claim, (sound, turning)), same)

    def test_openings_that_mend_not(self):
        for leader, hands in (("a", ()), ("a", ("b",)), ("b", ("c",)), ("b", ("d",))):
            made = told_ahead(PAIRS, leader, hands)
            for number in (0, 1):
                found = sorted(walked(made).items())
                table = tuple((standing, ([at for at, story in enumerate(made) if begins(run, story)] or [number])[0])
                              for standing, run in found)
                self.refuses(("mends", PAIRS, leader, hands), (table, closed_table(made)))

    def test_many_stories(self):
        for many in (26, 27, 28, 40):
            book = book_from(letters("a", "b", [name]) + letters("b", "a", "w") for name in names(many))
            for leader, hands in (("a", ()), ("a", ("b",)), ("b", ("a",))):
                paper = self.tables(book, leader, hands)
                self.takes(("mends", book, leader, hands), paper)
                self.refuses(("mends", book, leader, hands), paper[::-1])
        # Other words than those told for the 27th story on.
        words = names(26) + ["za"] + names(40)[27:]
        turning = book_from([letters("b", "a", [word]) + story for word, story in zip(words, book)])
        self.refuses(("mends", book, "b", ("a",)), (sound_table(turning), closed_table(turning)))
        self.takes(("mends", turning, "b", ()), (sound_table(turning), closed_table(turning)))


class Turned(CheckerTest):

    def told(self):
        """Claims of all kinds with the papers that the house tells, of small books."""
        found = []
        chance = random.Random(304)
        books = chance.sample(small_books(), 40) + [PAIRS, EXACT, STUCK, sound_in_one_room(), closed_in_one_room()]
        for at, book in enumerate(books):
            for rooms in (None, 1):
                found += told_claims(book, rooms)
            found.append(paper_seen(book, books[at - 1]))
            found.append(paper_seen(book, book))
            hands = hands_in(book)
            way = tuple(zip(hands, chance.sample(["a", "b", "c", "d", "e", "f"], len(hands))))
            found.append(paper_renamed(book, named_otherwise(book, way)))
            if paper_mends(book) is not None:
                found.append(paper_mends(book))
        for story in chance_rows(305, 12, 10, "ab", "w", True, 0.1) + [CROSSING]:
            found += [paper_goes(story, rooms) for rooms in (1, 2)]
        return found

    def test_what_the_house_tells(self):
        words = set()
        for claim, paper in self.told():
            self.assertIs(self.judged(claim, paper), True)
            self.assertIs(is_so(claim), True)
            words.add(claim[0])
        self.assertEqual(len(words), 12)

    def test_one_thing_turned(self):
        chance = random.Random(306)
        found = {True: 0, False: 0}
        for claim, paper in self.told():
            for turn in range(12):
                other = turned(chance, claim) if turn % 2 else claim
                shown = paper if turn % 2 else turned(chance, paper)
                told = self.judged(other, shown)
                if told:
                    self.assertIs(is_so(other), True)
                found[told] += 1
        self.assertGreater(min(found.values()), 100)

    def test_the_paper_of_another_claim(self):
        chance = random.Random(307)
        told = self.told()
        for claim, paper in chance.sample(told, 120):
            for other, shown in chance.sample(told, 8):
                if self.judged(claim, shown):
                    self.assertIs(is_so(claim), True)
                self.judged(other[:1] + claim[1:], paper)
                self.judged(claim[:1] + other[1:], paper)

    def test_a_part_more_or_fewer(self):
        for claim, paper in self.told()[::7]:
            for wrong in (claim[:-1], claim + (None,), claim + claim[-1:], claim[1:], claim[:1], list(claim), (claim,)):
                self.refuses(wrong, paper)
            for word in ("", "Goes", "goes  not", "goes_not", "gone", None, True, 0, b"goes", (claim[0],),
                         [claim[0]], {}):
                self.refuses((word,) + claim[1:], paper)

    def test_things_of_any_kind(self):
        things = chance_things(308, 400) + any_things()
        deep = ()
        for turn in range(18):
            deep = [(deep,), [deep], {"a": deep}][turn % 3]
        things += [deep, (deep,), ("goes", deep, None), ("sound", deep, deep)]
        for thing in things:
            self.refuses(thing, None)
            self.refuses(thing, thing)
        words = ["goes", "goes not", "sound", "stray", "moves", "stuck", "closed", "unasked", "alike", "parted",
                 "renamed", "mends"]
        chance = random.Random(309)
        for word in words:
            for turn in range(150):
                parts = chance.choices(things, k=chance.choice([2, 2, 3]))
                self.assertIs(holds((word,) + tuple(parts), chance.choice(things)), False)
        for claim, paper in self.told()[::3]:
            for thing in chance.sample(things, 20):
                self.assertIn(holds(claim, thing), (True, False))
                self.assertIs(holds(claim, thing), is_right(claim, thing))
                at = chance.randrange(1, len(claim))
                self.judged_only_kind(claim[:at] + (thing,) + claim[at + 1:], paper)

    def test_things_equal_to_everything(self):
        for claim, paper in self.told()[::5]:
            for at in range(len(claim)):
                self.refuses(claim[:at] + (Odd(),) + claim[at + 1:], paper)
            self.refuses(claim, Odd())
            for path in self.paths(paper):
                self.refuses(claim, self.put(paper, path))

    def paths(self, thing):
        """The places of all parts of the thing, and of their parts."""
        if not isinstance(thing, tuple):
            return []
        return [path for at, part in enumerate(thing) for path in [(at,)] + [(at,) + more for more in self.paths(part)]]

    def put(self, thing, path):
        """The thing with what is equal to everything at the place."""
        if not path:
            return Odd()
        at = path[0]
        return thing[:at] + (self.put(thing[at], path[1:]),) + thing[at + 1:]

    def judged_only_kind(self, claim, paper):
        """The checker tells what plain walking tells, also of things that can't be copied."""
        self.assertIs(holds(claim, paper), is_right(claim, paper))

    def test_told_again(self):
        told = self.told()
        first = [holds(claim, paper) for claim, paper in told]
        self.assertEqual([holds(claim, paper) for claim, paper in told[::-1]][::-1], first)


class LargerBooks(CheckerTest):

    def test_what_the_house_tells(self):
        books = chance_books(310, 10, 4, 24, "abcde") + chance_books(311, 15, 12, 12, "abc")
        words = set()
        for book in books + chance_books(312, 5, 40, 8) + [standings_book(2500)]:
            for rooms in (None, 1, 3):
                try:
                    told = told_claims(book, rooms)
                except TooMany:
                    continue
                for claim, paper in told:
                    self.takes(claim, paper)
                    words.add(claim[0])
            try:
                told = paper_mends(book)
            except TooMany:
                continue
            if told is not None:
                self.takes(*told)
                words.add(told[0][0])
        self.assertEqual(len(words), 7)

    def test_stories_of_thirty_two_deeds(self):
        for story in chance_rows(313, 60, 32, "abcde", "xy", True, 0.2):
            for rooms in range(1, 6):
                self.takes(*paper_goes(story, rooms))


class Imports(unittest.TestCase):

    # Of the document's stages 7 to 12, and what they alone stand on.
    BARRED = {"machines", "seen", "standings", "strays", "stucks", "unasked", "closings", "renamings", "openings",
              "mends", "places", "reaches", "papers", "desk"}

    def test_nothing_of_the_stages_that_find_answers(self):
        waiting = ["checker"]
        for name in waiting:
            tree = ast.parse((ROOT / "talehands" / f"{name}.py").read_text(encoding="utf-8"))
            for node in ast.walk(tree):
                if isinstance(node, ast.ImportFrom):
                    part = node.module.removeprefix("talehands.")
                    if part not in waiting:
                        waiting.append(part)
        self.assertEqual(self.BARRED & set(waiting), set())

    def test_nothing_of_them_comes_along(self):
        code = "import sys, talehands.checker; print(*[name for name in sys.modules if name.startswith('talehands.')])"
        told = subprocess.run([sys.executable, "-c", code], cwd=ROOT, capture_output=True, text=True, check=True)
        found = {name.removeprefix("talehands.") for name in told.stdout.split()}
        self.assertIn("checker", found)
        self.assertEqual(self.BARRED & found, set())


if __name__ == "__main__":
    unittest.main()
