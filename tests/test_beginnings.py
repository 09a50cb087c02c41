import itertools
import random
import unittest

from talehands.beginnings import is_beginning, rest
from tests.helpers import (all_seen, alike_rows, begins, chance_rows, kept, lines_of, next_deeds, sent, shuffled,
                           taken)

S, T = sent("a b w"), taken("a b w")


class Beginnings(unittest.TestCase):

    def test_of_none_and_of_all(self):
        for row in [(), (S,), (S, T)] + chance_rows(20, 30, 32, "abcd"):
            self.assertIs(is_beginning((), row), True)
            self.assertIs(is_beginning(row, row), True)
            self.assertEqual(rest(row, row), ())
            if row:
                self.assertIs(is_beginning(row, ()), False)
                self.assertIsNone(rest(row, ()))

    def test_few(self):
        row = (S, T, sent("c a v"), taken("c a v"))
        self.assertIs(is_beginning((S,), row), True)
        self.assertIs(is_beginning((sent("c a v"),), row), True)
        self.assertIs(is_beginning((sent("c a v"), S), row), True)
        self.assertIs(is_beginning((sent("c a v"), taken("c a v")), row), False)
        self.assertIs(is_beginning((sent("a b v"),), row), False)
        self.assertIs(is_beginning((sent("b a w"),), row), False)
        self.assertIs(is_beginning((sent("d a w"),), row), False)
        self.assertIs(is_beginning(row + (S,), row), False)
        self.assertEqual(rest((sent("c a v"),), row), (S, T, taken("c a v")))
        self.assertEqual(rest((), row), (S, sent("c a v"), T, taken("c a v")))
        self.assertIsNone(rest((sent("c a v"), taken("c a v")), row))

    def test_just_where_views_begin(self):
        rows = chance_rows(21, 60, 4, "ab", "w") + chance_rows(22, 60, 5, "abc", "w") + [(), (S,), (S, T)]
        found = 0
        for row, other in itertools.product(rows, rows):
            self.assertIs(is_beginning(row, other), begins(row, other), (row, other))
            self.assertEqual(rest(row, other) is None, not begins(row, other))
            found += begins(row, other)
        self.assertGreater(found, 200)

    def test_rows_that_cannot_go(self):
        self.assertIs(is_beginning((T,), (S, T)), False)
        self.assertIs(is_beginning((S,), (T, S)), False)
        self.assertIsNone(rest((T,), (S, T)))


class Rests(unittest.TestCase):

    def test_the_least_of_all(self):
        chance = random.Random(23)
        for row in chance_rows(24, 80, 7) + chance_rows(25, 40, 8, "ab", "w", True):
            whole = shuffled(chance, row)
            for many in range(len(whole) + 1):
                begun = whole[:many]
                told = rest(begun, row)
                self.assertIs(type(told), tuple)
                self.assertEqual(told, min(alike_rows(row, begun))[many:])

    def test_long_rows(self):
        chance = random.Random(26)
        for hands in ("ab", "abc", "abcde"):
            for row in chance_rows(27, 20, 32, hands) + chance_rows(28, 20, 32, hands, "w", True):
                begun = shuffled(chance, row)[:chance.randint(0, len(row))]
                told = rest(begun, row)
                self.assertIs(is_beginning(begun, row), True)
                self.assertIsNotNone(lines_of(begun + told))
                self.assertEqual(all_seen(begun + told), all_seen(row))
                for at, deed in enumerate(told):
                    self.assertEqual(deed, next_deeds(begun + told[:at], row)[0])

    def test_letters_under_way_can_be_taken(self):
        self.assertEqual(rest((S,), (S, T)), (T,))
        self.assertEqual(rest((S, S), (S, T, S, T)), (T, T))
        self.assertEqual(rest((S, T), (S, S, T, T)), (S, T))

    def test_what_is_handed_in_stays(self):
        self.assertEqual(kept(self, [(S,), (S, T)], rest), (T,))
        self.assertIs(kept(self, [(S,), (S, T)], is_beginning), True)


if __name__ == "__main__":
    unittest.main()
