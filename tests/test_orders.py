import itertools
import random
import unittest

from talehands.errors import NoRow
from talehands.orders import changed, least_row
from tests.helpers import all_seen, alike_rows, chance_rows, exchanged, kept, may_change, sent, shuffled, taken

S, T = sent("a b w"), taken("a b w")


class Changed(unittest.TestCase):

    def test_none(self):
        for row in [(), (S,), (S, T), (S, S, T, T)] + chance_rows(6, 20, 32, "abcd"):
            self.assertEqual(changed(row, row), ("changes", ()))

    def test_one(self):
        one, other = sent("a b w"), sent("b a w")
        self.assertEqual(changed((one, other), (other, one)), ("changes", (0,)))
        self.assertEqual(changed((S, S, T, T), (S, T, S, T)), ("changes", (1,)))

    def test_all_alike_rows_of_short_ones(self):
        for row in chance_rows(7, 60, 7):
            for other in alike_rows(row)[:60]:
                self.walked(row, other)
                self.walked(other, row)

    def test_long_rows(self):
        chance = random.Random(8)
        for row in [one for hands in ("ab", "abc", "abcde") for one in chance_rows(9, 25, 32, hands)]:
            self.walked(row, shuffled(chance, row))
            self.walked(shuffled(chance, row), row)
        for row in chance_rows(10, 25, 32, "abcd", "w", finished=True):
            self.walked(shuffled(chance, row), shuffled(chance, row))

    def test_a_row_comes_to_just_those_alike(self):
        for row in chance_rows(11, 40, 7):
            come = {row}
            new = [row]
            while new:
                now = new.pop()
                for place in range(len(now) - 1):
                    one = exchanged(now, place)
                    if may_change(now, place) and one not in come:
                        come.add(one)
                        new.append(one)
            self.assertEqual(sorted(come), alike_rows(row))

    def walked(self, row, other):
        told = changed(row, other)
        self.assertIs(type(told), tuple)
        word, places = told
        self.assertEqual(word, "changes")
        self.assertIs(type(places), tuple)
        for place in places:
            self.assertIs(type(place), int)
            self.assertIn(place, range(len(row) - 1))
            self.assertTrue(may_change(row, place))
            row = exchanged(row, place)
        self.assertEqual(row, other)


class Parted(unittest.TestCase):

    def test_the_least_hand(self):
        self.both((S, T), (), "a")
        self.both((S, T), (S,), "b")
        self.both((S, T), (sent("a b v"), taken("a b v")), "a")
        self.both((sent("c b w"), taken("c b w")), (sent("c a w"), taken("c a w")), "a")
        self.both((sent("c b w"),), (sent("c a w"),), "c")
        self.both((sent("c a w"), sent("b a w")), (sent("c a w"),), "b")
        begun = (sent("a c w"), sent("b c w"))
        self.both(begun + (taken("a c w"), taken("b c w")), begun + (taken("b c w"), taken("a c w")), "c")

    def test_just_where_views_are_unlike(self):
        rows = chance_rows(12, 60, 5, "ab", "w") + chance_rows(13, 30, 6)
        for row, other in itertools.product(rows, rows):
            mine, its = all_seen(row), all_seen(other)
            parting = sorted(hand for hand in "abc" if mine.get(hand) != its.get(hand))
            if parting:
                self.assertEqual(changed(row, other), ("parted", parting[0]))
            else:
                self.assertEqual(changed(row, other)[0], "changes")

    def test_rows_that_cannot_go_are_refused(self):
        for ask, number in ((lambda: changed((S, T, T), (S, T)), 2), (lambda: changed((S, T), (T, S)), 0),
                            (lambda: least_row((S, T, T)), 2)):
            with self.assertRaises(NoRow) as seen:
                ask()
            self.assertEqual(seen.exception.number, number)

    def both(self, row, other, hand):
        self.assertEqual(changed(row, other), ("parted", hand))
        self.assertEqual(changed(other, row), ("parted", hand))


class Least(unittest.TestCase):

    def test_few(self):
        self.assertEqual(least_row(()), ())
        self.assertEqual(least_row((S,)), (S,))
        self.assertEqual(least_row((S, T)), (S, T))
        self.assertEqual(least_row((sent("b a w"), sent("a b w"))), (sent("a b w"), sent("b a w")))
        self.assertEqual(least_row((S, T, S, T)), (S, S, T, T))
        self.assertEqual(least_row((sent("a b z"), taken("a b z"), sent("a b c"), taken("a b c"))),
                         (sent("a b z"), sent("a b c"), taken("a b z"), taken("a b c")))

    def test_the_least_of_all_alike_ones(self):
        for row in chance_rows(14, 150, 8) + chance_rows(15, 100, 8, "ab") + chance_rows(16, 60, 8, "abc", "w", True):
            others = alike_rows(row)
            told = least_row(row)
            self.assertIs(type(told), tuple)
            self.assertEqual(told, min(others))
            self.assertEqual(least_row(told), told)
            self.assertEqual(least_row(others[-1]), told)

    def test_pairs_that_do_not_meet(self):
        # Sixteen letters from as many hands to as many others: all sendings first, then all takings, rising.
        letters = [(giver + "x", giver + "y", "w") for giver in "ponmlkjihgfedcba"]
        row = tuple((kind,) + letter for letter in letters for kind in ("send", "take"))
        self.assertEqual(least_row(row), tuple(sorted(row)))

    def test_letters_back_and_forth(self):
        # Each hand answers what it took: there is but one order.
        row = ()
        for turn in range(8):
            row += (sent("b a w"), taken("b a w"), sent("a b w"), taken("a b w"))
        self.assertEqual(least_row(row), row)

    def test_long_rows(self):
        chance = random.Random(17)
        for hands in ("ab", "abc", "abcde"):
            for row in chance_rows(18, 25, 32, hands) + chance_rows(19, 25, 32, hands, "w", True):
                told = least_row(row)
                self.assertEqual(all_seen(told), all_seen(row))
                self.assertEqual(least_row(told), told)
                for turn in range(5):
                    other = shuffled(chance, row)
                    self.assertLessEqual(told, other)
                    self.assertEqual(least_row(other), told)

    def test_what_is_handed_in_stays(self):
        row, other = (S, T, S, T), (S, S, T, T)
        self.assertEqual(kept(self, [row], least_row), other)
        self.assertEqual(kept(self, [row, other], changed), ("changes", (1,)))


if __name__ == "__main__":
    unittest.main()
