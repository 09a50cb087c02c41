import itertools
import unittest

from talehands.lines import under_way
from talehands.views import alike, hands_of, view
from tests.helpers import all_seen, alike_rows, chance_rows, kept, lines_of, seen_by, sent, taken

S, T = sent("a b w"), taken("a b w")
ALL = [(kind, giver, taker, word) for kind in ("send", "take") for giver, taker in (("a", "b"), ("b", "a"))
       for word in ("v", "w")]


class Hands(unittest.TestCase):

    def test_rising_each_once(self):
        self.assertEqual(hands_of(()), ())
        self.assertEqual(hands_of((sent("b a w"),)), ("a", "b"))
        self.assertEqual(hands_of((taken("z c w"),)), ("c", "z"))
        self.assertEqual(hands_of((sent("d b w"), sent("c a w"), sent("a b w"), taken("d b w"))), ("a", "b", "c", "d"))
        self.assertEqual(hands_of((sent("b aa b"), sent("b a w"), sent("ab b aa"))), ("a", "aa", "ab", "b"))

    def test_words_are_no_hands(self):
        self.assertEqual(hands_of((sent("a b c"), taken("a b d"))), ("a", "b"))

    def test_a_tuple(self):
        for row in ((), (S,), (S, T)):
            self.assertIs(type(hands_of(row)), tuple)

    def test_long_rows(self):
        for row in chance_rows(3, 50, 32, "abcde"):
            self.assertEqual(hands_of(row), tuple(sorted({hand for deed in row for hand in deed[1:3]})))


class Views(unittest.TestCase):

    def test_of_each_hand(self):
        row = (sent("a b w"), sent("c b v"), sent("a c w"), taken("c b v"), taken("a b w"), sent("a b w"))
        self.assertEqual(view(row, "a"), (sent("a b w"), sent("a c w"), sent("a b w")))
        self.assertEqual(view(row, "b"), (taken("c b v"), taken("a b w")))
        self.assertEqual(view(row, "c"), (sent("c b v"),))

    def test_of_a_hand_without_deeds(self):
        self.assertEqual(view((S,), "b"), ())
        self.assertEqual(view((T,), "a"), ())
        self.assertEqual(view((S, T), "c"), ())
        self.assertEqual(view((S, T), "w"), ())
        self.assertEqual(view((), "a"), ())

    def test_a_tuple(self):
        for hand in "abc":
            self.assertIs(type(view((S, T), hand)), tuple)

    def test_each_deed_is_one_hands(self):
        for row in chance_rows(4, 50, 32, "abcde"):
            views = [view(row, hand) for hand in hands_of(row)]
            self.assertEqual(sum(len(one) for one in views), len(row))
            self.assertEqual(views, [seen_by(row, hand) for hand in hands_of(row)])


class Alike(unittest.TestCase):

    def test_unlike_hands_exchanged(self):
        self.both((sent("a b w"), sent("b a v")), (sent("b a v"), sent("a b w")), True)
        self.both((S, S, T, T), (S, T, S, T), True)
        self.both((S, T, sent("c d w")), (sent("c d w"), S, T), True)
        self.both((S, T), (S, T), True)
        self.both((), (), True)

    def test_otherwise(self):
        self.both((S, T), (sent("a b v"), taken("a b v")), False)
        self.both((S, T), (sent("a c w"), taken("a c w")), False)
        self.both((S, T), (sent("c b w"), taken("c b w")), False)
        self.both((S, T), (sent("b a w"), taken("b a w")), False)
        self.both((S, T), (S,), False)
        self.both((S, T), (), False)
        self.both((S, S), (S,), False)
        self.both((S, sent("a c w")), (sent("a c w"), S), False)
        self.both((S, sent("a b v")), (sent("a b v"), S), False)
        one, other = taken("a c w"), taken("b c w")
        begun = (sent("a c w"), sent("b c w"))
        self.both(begun + (one, other), begun + (other, one), False)
        self.both((S, sent("b a v"), T), (S, T, sent("b a v")), False)

    def test_rows_that_cannot_go_are_not_alike(self):
        self.both((S, T), (T, S), False)
        self.both((T, S), (T, S), False)

    def test_all_short_rows(self):
        rows = [row for many in range(4) for row in itertools.product(ALL, repeat=many) if lines_of(row) is not None]
        for row in rows:
            for other in rows:
                self.assertIs(alike(row, other), all_seen(row) == all_seen(other))

    def test_alike_rows_have_the_same_under_way(self):
        for row in chance_rows(5, 60, 8):
            for other in alike_rows(row):
                self.assertIs(alike(row, other), True)
                self.assertEqual(under_way(row), under_way(other))

    def test_what_is_handed_in_stays(self):
        row = (S, T)
        self.assertEqual(kept(self, [row], hands_of), ("a", "b"))
        self.assertEqual(kept(self, [row, "a"], view), (S,))
        self.assertIs(kept(self, [row, row], alike), True)

    def both(self, row, other, told):
        self.assertIs(alike(row, other), told, (row, other))
        self.assertIs(alike(other, row), told, (row, other))


if __name__ == "__main__":
    unittest.main()
