import itertools
import unittest

from talehands.errors import NoRow
from talehands.lines import can_go, is_story, under_way
from tests.helpers import any_things, chance_rows, kept, lines_of, sent, taken

S, T = sent("a b w"), taken("a b w")
ALL = [(kind, giver, taker, word) for kind in ("send", "take") for giver, taker in (("a", "b"), ("b", "a"))
       for word in ("v", "w")]


class UnderWay(unittest.TestCase):

    def test_none(self):
        self.assertEqual(under_way(()), ())
        self.assertEqual(under_way((S, T)), ())
        self.assertEqual(under_way((S, T) * 16), ())

    def test_words_with_the_one_sent_first_ahead(self):
        row = (sent("a b z"), sent("a b a"), sent("a b m"))
        self.assertEqual(under_way(row), (("a", "b", ("z", "a", "m")),))
        self.assertEqual(under_way(row + (taken("a b z"),)), (("a", "b", ("a", "m")),))
        self.assertEqual(under_way((S, S, S)), (("a", "b", ("w", "w", "w")),))

    def test_pairs_rising(self):
        row = (sent("c a w"), sent("b c w"), sent("b a w"), sent("a c w"), sent("a b z"), sent("c b w"), sent("a b a"))
        self.assertEqual(under_way(row), (
            ("a", "b", ("z", "a")), ("a", "c", ("w",)), ("b", "a", ("w",)), ("b", "c", ("w",)), ("c", "a", ("w",)),
            ("c", "b", ("w",))))

    def test_all_tuples(self):
        told = under_way((sent("b a w"), S, S))
        self.assertIs(type(told), tuple)
        for part in told:
            self.assertIs(type(part), tuple)
            self.assertIs(type(part[2]), tuple)

    def test_each_pair_has_its_own_letters(self):
        self.assertEqual(under_way((S, sent("b a w"), taken("b a w"))), (("a", "b", ("w",)),))
        self.assertEqual(under_way((S, sent("a c v"), taken("a c v"))), (("a", "b", ("w",)),))
        self.assertEqual(under_way((sent("a c v"), S, T)), (("a", "c", ("v",)),))

    def test_only_the_first_one_with_its_word(self):
        row = (sent("a b v"), S)
        self.refused(row + (T,), 2)
        self.refused(row + (taken("a b v"), taken("a b v")), 3)
        self.assertEqual(under_way(row + (taken("a b v"), T)), ())

    def test_what_cannot_be_done(self):
        self.refused((T,), 0)
        self.refused((T, S), 0)
        self.refused((S, T, T), 2)
        self.refused((S, taken("b a w")), 1)
        self.refused((S, taken("a c w")), 1)
        self.refused((S, taken("c b w")), 1)
        self.refused((S, taken("a b v")), 1)
        self.refused((S, S, T, T, T, None), 4)

    def test_what_is_no_deed(self):
        for thing in any_things() + [0, 1, "a", ("send", "a", "a", "w"), list(S), S[:3], S + ("w",), (S,)]:
            self.refused((thing,), 0)
            self.refused((S, thing, T), 1)
            self.refused((S, T, thing, T), 2)
            self.refused((T, thing), 0)
            self.refused((S, thing, thing), 1)

    def test_all_short_rows(self):
        for many in range(4):
            for row in itertools.product(ALL, repeat=many):
                lines = lines_of(row)
                self.assertIs(can_go(row), lines is not None, row)
                self.assertIs(is_story(row), lines == {}, row)
                if lines is None:
                    first = min(at for at in range(many) if lines_of(row[:at + 1]) is None)
                    self.refused(row, first)
                else:
                    self.assertEqual(under_way(row), tuple((*pair, tuple(lines[pair])) for pair in sorted(lines)))

    def test_long_rows(self):
        for row in chance_rows(1, 200, 32, "abcde", "xyz"):
            lines = lines_of(row)
            self.assertEqual(under_way(row), tuple((*pair, tuple(lines[pair])) for pair in sorted(lines)))
            self.assertIs(can_go(row), True)

    def refused(self, row, number):
        with self.assertRaises(NoRow) as seen:
            under_way(row)
        self.assertEqual(seen.exception.number, number)
        self.assertIs(can_go(row), False)
        self.assertIs(is_story(row), False)


class OfAnyKind(unittest.TestCase):

    def test_can_go(self):
        for row in ((), (S,), (S, T), (S, S, T), (S, sent("b a w"), taken("b a w"), T)):
            self.assertIs(can_go(row), True)

    def test_is_story(self):
        for row in ((), (S, T), (S, S, T, T), (S, sent("b a w"), taken("b a w"), T)):
            self.assertIs(is_story(row), True)
        for row in ((S,), (S, S, T), (S, sent("b a w"), T), (T,), (T, S)):
            self.assertIs(is_story(row), False)
        for row in chance_rows(2, 100, 32, "abcd", "xy", finished=True):
            self.assertIs(is_story(row), True)
            self.assertIs(is_story(row[:-1]), len(row) == 0)

    def test_things_of_any_kind(self):
        self.assertIs(can_go(S), False)
        self.assertIs(is_story(S), False)
        for thing in any_things() + [0, 1, "a", [], [S], [S, T], {S: T}, {S}, "-", "a>b:w"]:
            self.assertIs(can_go(thing), False, repr(thing))
            self.assertIs(is_story(thing), False, repr(thing))
            self.assertIs(can_go((S, T, thing)), False, repr(thing))
            self.assertIs(is_story((S, T, thing)), False, repr(thing))

    def test_what_is_handed_in_stays(self):
        for thing in ([S, T], {S: [T]}, (S, [T]), (list(S),), (S, T), (S, S)):
            kept(self, [thing], can_go)
            kept(self, [thing], is_story)
        self.assertEqual(kept(self, [(S, S, T)], under_way), (("a", "b", ("w",)),))
        self.assertEqual(under_way((S, S, T)), under_way((S, S, T)))


if __name__ == "__main__":
    unittest.main()
