import random
import unittest

from talehands.errors import NoPlot, TooMany
from talehands.plots import is_plot, plot_rows
from tests.helpers import (Odd, all_plot_rows, any_things, chance_plot, either, has_too_many, kept, names, sent,
                           taken)

S, T = sent("a b w"), taken("a b w")
A, B, C, D = [("row", (sent("a b " + word),)) for word in "abcd"]
NONE = ("row", ())


def told(plot):
    """The rows of a plot of such rows, as texts."""
    return ["".join(deed[3] for deed in row) for row in plot_rows(plot)]


class IsPlot(unittest.TestCase):

    def test_each_form(self):
        for plot in (NONE, A, ("row", (T, S)), ("row", (S,) * 40), ("then", (A,)), ("then", (A, B, A)), ("or", (A,)),
                     ("or", (A, A)), ("again", A, 0, 0), ("again", A, 0, 4), ("again", A, 4, 4), ("again", A, 2, 3),
                     ("then", (("or", (A, ("again", ("then", (B, NONE)), 1, 2))), ("again", ("again", A, 0, 1), 1, 1)))):
            self.assertIs(is_plot(plot), True, plot)

    def test_deep_and_wide(self):
        plot = A
        for turn in range(19):
            plot = (("then", (plot,)), ("or", (plot,)), ("again", plot, 1, 1))[turn % 3]
        self.assertIs(is_plot(plot), True)
        self.assertIs(is_plot(("or", (A,) * 199)), True)
        self.assertIs(is_plot(("or", (A,) * 199 + (None,))), False)

    def test_lists_for_tuples(self):
        for wrong in (["row", ()], ("row", []), ("row", [S]), ("row", (list(S),)), ["then", (A,)], ("then", [A]),
                      ("then", (list(A),)), ["or", (A,)], ("or", [A]), ("or", (list(A),)), ["again", A, 0, 1],
                      ("again", list(A), 0, 1), ("again", A, [0], 1), ("again", A, 0, (1,))):
            self.no_plot(wrong)

    def test_other_words(self):
        for word in ("rows", "Row", "", "-", "and", "send", "o", "either", None, True, 0, b"row", ("row",), ["or"], Odd()):
            for wrong in ((word, ()), (word, (S,)), (word, (A,)), (word, A, 0, 1), (word,)):
                self.no_plot(wrong)

    def test_parts_more_or_fewer(self):
        for wrong in ((), ("row",), ("then",), ("or",), ("again",), ("row", (), ()), ("then", (A,), (A,)),
                      ("or", (A,), 0), ("or", (A,), 0, 1), ("then", A, 0, 1), ("row", (), 0, 1), ("again", A),
                      ("again", A, 1), ("again", A, 0, 1, 2), ("again", 0, 1), ("again", (A,))):
            self.no_plot(wrong)

    def test_no_parts(self):
        for wrong in (("then", ()), ("or", ()), ("then", (A, ("or", ()))), ("again", ("then", ()), 0, 0)):
            self.no_plot(wrong)

    def test_parts_of_other_forms(self):
        for wrong in (("then", A), ("or", A), ("then", (A, S)), ("or", (S,)), ("row", A), ("row", S), ("row", (A,)),
                      ("again", (A,), 0, 1), ("again", (S,), 0, 1), ("again", S, 0, 1), ("row", None), ("row", "-"),
                      ("row", "a!b:w"), ("then", "A"), ("or", {A: 1})):
            self.no_plot(wrong)

    def test_numbers(self):
        for least, most in ((-1, 0), (-1, -1), (0, -1), (0, 5), (5, 5), (4, 5), (1, 0), (4, 3), (2, 1), (0, 10 ** 5000),
                            (-10 ** 5000, 1), (True, 1), (0, True), (False, 1), (0, False), (True, True),
                            (None, 1), (0, None), ("0", 1), (0, "1"), (b"0", 1), ((), 1), (0, [])):
            self.no_plot(("again", A, least, most))
        for least in range(5):
            for most in range(5):
                self.assertIs(is_plot(("again", A, least, most)), least <= most)

    def test_rows_that_are_none(self):
        for row in ((S, None), (None,), (S[:3],), (S + ("w",),), (("send", "a", "a", "w"),), (("send", "A", "b", "w"),),
                    (S, ())):
            self.no_plot(("row", row))

    def test_things_of_any_kind(self):
        for thing in any_things() + ["a", (S,), "row", ("row", S)]:
            for wrong in (thing, (thing,), ("then", (A, thing)), ("or", (thing, A)), ("again", thing, 0, 1),
                          ("row", (S, thing)), ("then", thing), ("or", thing), ("again", A, thing, 4),
                          ("again", A, 0, thing)):
                self.no_plot(wrong)
        for wrong in (0, 1, S, ("then", (A, 0)), ("again", 1, 0, 1), ("row", 0), ("or", 1)):
            self.no_plot(wrong)

    def no_plot(self, thing):
        self.assertIs(is_plot(thing), False)
        with self.assertRaises(NoPlot):
            plot_rows(thing)


class Rows(unittest.TestCase):

    def test_row(self):
        self.assertEqual(plot_rows(NONE), [()])
        self.assertEqual(plot_rows(("row", (S, T))), [(S, T)])
        self.assertEqual(plot_rows(("row", (T, T))), [(T, T)])
        self.assertIs(type(plot_rows(NONE)), list)

    def test_then(self):
        self.assertEqual(told(("then", (A,))), ["a"])
        self.assertEqual(told(("then", (A, B, C))), ["abc"])
        self.assertEqual(told(("then", (either("ab"), either("cd")))), ["ac", "ad", "bc", "bd"])
        self.assertEqual(told(("then", (either("ba"), either("dc"), either("ef")))),
                         ["bde", "bdf", "bce", "bcf", "ade", "adf", "ace", "acf"])

    def test_or(self):
        self.assertEqual(told(("or", (A,))), ["a"])
        self.assertEqual(told(("or", (C, A, B))), ["c", "a", "b"])
        self.assertEqual(told(("or", (C, either(["b", "", "a"]), D))), ["c", "b", "", "a", "d"])

    def test_again(self):
        self.assertEqual(told(("again", A, 0, 0)), [""])
        self.assertEqual(told(("again", A, 0, 1)), ["", "a"])
        self.assertEqual(told(("again", A, 1, 1)), ["a"])
        self.assertEqual(told(("again", A, 2, 4)), ["aa", "aaa", "aaaa"])
        self.assertEqual(told(("again", either("ba"), 1, 2)), ["b", "a", "bb", "ba", "ab", "aa"])
        self.assertEqual(told(("again", either("ba"), 2, 2)), ["bb", "ba", "ab", "aa"])
        self.assertEqual(told(("again", NONE, 0, 4)), [""])

    def test_each_once_where_it_comes_first(self):
        self.assertEqual(told(("or", (A, B, A, C, B))), ["a", "b", "c"])
        self.assertEqual(told(("then", (either(["a", "aa", ""]), either(["a", "", "aa"])))),
                         ["aa", "a", "aaa", "aaaa", ""])
        self.assertEqual(told(("again", either(["a", ""]), 0, 2)), ["", "a", "aa"])
        self.assertEqual(told(("again", either(["", "a"]), 1, 2)), ["", "a", "aa"])

    def test_in_one_another(self):
        self.assertEqual(told(("then", (("or", (A, B)), ("again", C, 0, 2), D))),
                         ["ad", "acd", "accd", "bd", "bcd", "bccd"])
        self.assertEqual(told(("again", ("then", (A, ("or", (B, NONE)))), 1, 2)), ["ab", "a", "abab", "aba", "aab", "aa"])
        self.assertEqual(told(("or", (("again", ("again", A, 1, 2), 2, 2), ("then", (A, B))))), ["aa", "aaa", "aaaa", "ab"])
        self.assertEqual(told(("again", ("or", (("again", A, 0, 0), B)), 0, 2)), ["", "b", "bb"])

    def test_held_against_all_rows_made_first(self):
        chance = random.Random(40)
        seen = {True: 0, False: 0}
        for turn in range(1500):
            plot = chance_plot(chance, 3)
            refused = has_too_many(plot)
            seen[refused] += 1
            if refused:
                with self.assertRaises(TooMany):
                    plot_rows(plot)
            else:
                self.assertEqual(plot_rows(plot), all_plot_rows(plot))
        self.assertGreater(min(seen.values()), 5)

    def test_a_told_list_is_the_askers_own(self):
        for plot in (NONE, ("or", (A, B)), ("then", (A, ("or", (B, C)))), ("again", A, 0, 2), ("again", A, 1, 1)):
            first = kept(self, [plot], plot_rows)
            whole = list(first)
            first.append("more")
            first[0] = None
            self.assertEqual(plot_rows(plot), whole)


class Refused(unittest.TestCase):

    def test_two_hundred_rows_are_let(self):
        self.assertEqual(told(either(names(200))), names(200))
        self.assertEqual(len(told(("then", (either(names(10)), either(names(20)))))), 200)
        self.assertEqual(len(told(("then", (either(names(200)),)))), 200)
        self.assertEqual(len(told(("again", either(names(200)), 1, 1))), 200)
        self.assertEqual(len(told(("again", either(names(199)), 0, 1))), 200)
        self.assertEqual(len(told(("again", either(names(14)), 2, 2))), 196)
        self.assertEqual(len(told(("or", (either(names(200)), either(names(150)))))), 200)

    def test_more_than_two_hundred_rows(self):
        for plot in (either(names(201)), ("or", (either(names(200)), A)), ("then", (either(names(201)),)),
                     ("then", (either(names(3)), either(names(67)))), ("again", either(names(200)), 0, 1),
                     ("again", either(names(15)), 2, 2), ("again", either(names(14)), 1, 2), ("again", either("abcd"), 4, 4)):
            self.too_many(plot)

    def test_twenty_four_deeds_are_let(self):
        whole = ("row", (S,) * 24)
        for plot in (whole, ("then", (("row", (S,) * 20), ("row", (S,) * 4))), ("again", ("row", (S,) * 6), 4, 4),
                     ("again", whole, 0, 1), ("or", (whole, A)), ("then", (NONE, whole, NONE)), ("again", whole, 1, 1)):
            self.assertIn((S,) * 24, plot_rows(plot))

    def test_more_than_twenty_four_deeds(self):
        long = ("row", (S,) * 25)
        for plot in (long, ("then", (("row", (S,) * 20), ("row", (S,) * 5))), ("again", ("row", (S,) * 7), 4, 4),
                     ("again", ("row", (S,) * 7), 0, 4), ("or", (A, long)), ("then", (NONE, long)),
                     ("then", (A,) * 25), ("again", long, 1, 1), ("again", ("row", (S,) * 13), 0, 2)):
            self.too_many(plot)

    def test_parts_that_are_told_no_times(self):
        for part in (either(names(201)), ("row", (S,) * 25), ("again", either("abcd"), 4, 4)):
            self.too_many(("again", part, 0, 0))
            self.too_many(("then", (A, ("again", ("then", (A, part)), 0, 0))))
            self.too_many(("or", (A, ("again", ("again", part, 0, 0), 0, 0))))
        # Only what is told is seen: the times beyond are not.
        self.assertEqual(told(("again", ("row", (S,) * 24), 0, 0)), [""])
        self.assertEqual(told(("again", either(names(200)), 0, 0)), [""])

    def test_no_plot_goes_ahead(self):
        for part in (either(names(201)), ("row", (S,) * 25)):
            for plot in (("then", (part, None)), ("or", (part, ("or", ()))), ("then", (part, ("again", A, 0, 5))),
                         ("again", part, 1, 0), ("or", (part, ("row", (None,)))), ("again", part, True, 1)):
                with self.assertRaises(NoPlot):
                    plot_rows(plot)

    def test_very_many_rows_are_refused_soon(self):
        self.too_many(("then", (either(["a", "b"]),) * 150))
        self.too_many(("then", (either([""] + names(90)),) * 60))
        plot = either(["", "a", "b"])
        for turn in range(7):
            plot = ("again", plot, 4, 4)
        self.too_many(plot)
        self.too_many(("then", (("again", either(names(100)), 0, 4),) * 50))

    def too_many(self, plot):
        self.assertIs(is_plot(plot), True)
        with self.assertRaises(TooMany):
            plot_rows(plot)


if __name__ == "__main__":
    unittest.main()
