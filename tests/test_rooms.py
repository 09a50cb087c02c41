import random
import unittest

from talehands.errors import NoRooms, NoRow
from talehands.rooms import keeps, least_rooms, run_within
from tests.helpers import (all_seen, alike_rows, chance_rows, kept, lines_of, most_under_way, must_come_ahead, sent,
                           shuffled, taken, wrong_rooms)

S, T = sent("a b w"), taken("a b w")
# Both hands send two letters and take the other's only then.
CROSSING = (sent("a b w"), sent("a b w"), sent("b a w"), sent("b a w"),
            taken("a b w"), taken("a b w"), taken("b a w"), taken("b a w"))


class Keeps(unittest.TestCase):

    def test_few(self):
        self.assertIs(keeps((), 1), True)
        self.assertIs(keeps((S,), 1), True)
        self.assertIs(keeps((S, T, S, T), 1), True)
        self.assertIs(keeps((S, S, T, T), 1), False)
        self.assertIs(keeps((S, S, T, T), 2), True)
        self.assertIs(keeps((S, S), 1), False)
        self.assertIs(keeps((S, T, S, S), 1), False)
        self.assertIs(keeps((S,) * 32, 31), False)
        self.assertIs(keeps((S,) * 32, 32), True)
        self.assertIs(keeps((S,) * 32, 40), True)

    def test_each_pair_has_its_own_rooms(self):
        self.assertIs(keeps((S, sent("b a w"), sent("a c w"), sent("c a w"), sent("c b w"), sent("b c w")), 1), True)
        self.assertIs(keeps((S, sent("b a w"), sent("a c w"), sent("a c v")), 1), False)

    def test_counted_behind_each_deed(self):
        for row in chance_rows(30, 120, 32, "abc") + chance_rows(31, 120, 20, "ab"):
            most = most_under_way(row)
            for rooms in range(1, most + 3):
                self.assertIs(keeps(row, rooms), most <= rooms)


class Within(unittest.TestCase):

    def test_few(self):
        self.assertEqual(run_within((), 1), ("row", ()))
        self.assertEqual(run_within((S, T), 1), ("row", (S, T)))
        self.assertEqual(run_within((S, S, T, T), 1), ("row", (S, T, S, T)))

    def test_crossing_letters(self):
        word, numbers = run_within(CROSSING, 1)
        self.assertEqual(word, "round")
        self.assertEqual(set(numbers), {1, 3, 4, 6})
        self.told(CROSSING, 2)
        self.assertEqual(run_within(CROSSING, 2)[0], "row")
        self.assertEqual(least_rooms(CROSSING), 2)

    def test_one_crossing_letter_each_goes(self):
        story = (sent("a b w"), sent("b a w"), taken("a b w"), taken("b a w"))
        self.assertEqual(run_within(story, 1)[0], "row")
        self.assertEqual(least_rooms(story), 1)

    def test_a_round_of_three_hands(self):
        story = ()
        for giver, taker in ("ab", "bc", "ca"):
            story += (("send", giver, taker, "w"),) * 3
        for giver, taker in ("ab", "bc", "ca"):
            story += (("take", giver, taker, "w"),) * 3
        for rooms, word in ((1, "round"), (2, "round"), (3, "row"), (40, "row")):
            self.assertEqual(run_within(story, rooms)[0], word)
            self.told(story, rooms)
        self.assertEqual(least_rooms(story), 3)

    def test_short_stories(self):
        rounds = 0
        stories = chance_rows(32, 300, 9, "ab", "w", True, 0.05) + chance_rows(33, 100, 8, "abc", "w", True, 0.3)
        for story in stories:
            others = alike_rows(story)
            least = max(1, min(most_under_way(row) for row in others))
            self.assertEqual(least_rooms(story), least)
            for rooms in range(1, 5):
                word = self.told(story, rooms)
                self.assertEqual(word, "row" if rooms >= least else "round")
                rounds += word == "round"
        self.assertGreater(rounds, 5)

    def test_long_stories(self):
        chance = random.Random(34)
        rounds = 0
        for hands in ("ab", "abc", "abcde"):
            for row in chance_rows(35, 40, 32, hands, "xy", True):
                story = shuffled(chance, row)
                least = least_rooms(story)
                for rooms in list(range(1, 6)) + [40]:
                    word = self.told(story, rooms)
                    self.assertEqual(word, "row" if rooms >= least else "round")
                    rounds += word == "round"
        self.assertGreater(rounds, 20)

    def test_least_rooms(self):
        self.assertEqual(least_rooms(()), 1)
        self.assertEqual(least_rooms((S, T)), 1)
        self.assertEqual(least_rooms((S,) * 16 + (T,) * 16), 1)
        for many in range(1, 9):
            story = tuple((kind,) + pair + ("w",) for kind in ("send", "take") for pair in (("a", "b"), ("b", "a"))
                          for turn in range(many))
            self.assertEqual(least_rooms(story), many)
            self.assertIs(type(least_rooms(story)), int)
        # One hand takes the first sent letter of another one last.
        story = (sent("a b w"),) * 5 + (sent("a c w"), taken("a c w"), sent("c b w"), taken("c b w")) + (T,) * 5
        self.assertEqual(least_rooms(story), 5)

    def told(self, story, rooms):
        """Hold what is told against the document; the word of it."""
        answer = run_within(story, rooms)
        self.assertIs(type(answer), tuple)
        word, found = answer
        self.assertIs(type(found), tuple)
        if word == "row":
            self.assertEqual(lines_of(found), {})
            self.assertEqual(all_seen(found), all_seen(story))
            self.assertLessEqual(most_under_way(found), rooms)
            return word
        self.assertEqual(word, "round")
        self.assertGreaterEqual(len(found), 2)
        self.assertEqual(len(set(found)), len(found))
        ahead = must_come_ahead(story, rooms)
        for at, number in enumerate(found):
            self.assertIs(type(number), int)
            self.assertIn((number, found[(at + 1) % len(found)]), ahead)
        return word


class Refused(unittest.TestCase):

    def test_no_rooms(self):
        for rooms in wrong_rooms():
            for row in ((), (S, T), CROSSING):
                with self.assertRaises(NoRooms):
                    keeps(row, rooms)
                with self.assertRaises(NoRooms):
                    run_within(row, rooms)

    def test_one_and_forty_are_let(self):
        for rooms in (1, 2, 39, 40):
            self.assertIs(keeps((S, T), rooms), True)
            self.assertEqual(run_within((S, T), rooms), ("row", (S, T)))

    def test_none_stands_for_as_many_as_may_be(self):
        self.assertIs(keeps((S,) * 60, None), True)
        self.assertEqual(run_within(CROSSING, None)[0], "row")

    def test_rows_that_cannot_go(self):
        for ask in (lambda: keeps((S, T, T), 1), lambda: run_within((S, T, T), 1), lambda: least_rooms((S, T, T))):
            with self.assertRaises(NoRow) as seen:
                ask()
            self.assertEqual(seen.exception.number, 2)

    def test_what_is_handed_in_stays(self):
        self.assertIs(kept(self, [(S, T), 1], keeps), True)
        self.assertEqual(kept(self, [(S, S, T, T), 1], run_within), ("row", (S, T, S, T)))
        self.assertEqual(kept(self, [CROSSING], least_rooms), 2)
        rooms = [1, [2]]
        with self.assertRaises(NoRooms):
            keeps((S, T), rooms)
        self.assertEqual(rooms, [1, [2]])


if __name__ == "__main__":
    unittest.main()
