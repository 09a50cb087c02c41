import itertools
import unittest

from talehands.errors import NoText
from talehands.rowtexts import read_row, show_row
from tests.helpers import any_things, kept, sent, taken

ALL = [(kind, giver, taker, word) for kind in ("send", "take") for giver, taker in (("a", "b"), ("b", "a"))
       for word in ("v", "w")]


class Shown(unittest.TestCase):

    def test_none(self):
        self.assertEqual(show_row(()), "-")

    def test_one(self):
        self.assertEqual(show_row((sent("a b w"),)), "a!b:w")
        self.assertEqual(show_row((taken("a b w"),)), "b?a:w")
        self.assertEqual(show_row((sent("zed anne hello"),)), "zed!anne:hello")
        self.assertEqual(show_row((taken("zed anne hello"),)), "anne?zed:hello")

    def test_a_sending_and_its_taking(self):
        self.assertEqual(show_row((sent("a b w"), taken("a b w"))), "a>b:w")
        self.assertEqual(show_row((taken("a b w"), sent("a b w"))), "b?a:w a!b:w")
        self.assertEqual(show_row((sent("a b w"), taken("b a w"))), "a!b:w a?b:w")
        self.assertEqual(show_row((sent("a b w"), taken("a b v"))), "a!b:w b?a:v")
        self.assertEqual(show_row((sent("a b w"), taken("a c w"))), "a!b:w c?a:w")
        self.assertEqual(show_row((sent("c b w"), taken("a b w"))), "c!b:w b?a:w")
        self.assertEqual(show_row((sent("a b w"), sent("a b w"))), "a!b:w a!b:w")

    def test_many(self):
        s, t = sent("a b w"), taken("a b w")
        self.assertEqual(show_row((s, t, s, t)), "a>b:w a>b:w")
        self.assertEqual(show_row((s, s, t, t)), "a!b:w a>b:w b?a:w")
        self.assertEqual(show_row((t, s, t, s)), "b?a:w a>b:w a!b:w")
        self.assertEqual(show_row((s, sent("c a v"), t, taken("c a v"), s)), "a!b:w c!a:v b?a:w a?c:v a!b:w")

    def test_as_short_as_can_be(self):
        for many in range(1, 4):
            for row in itertools.product(ALL, repeat=many):
                shown = show_row(row)
                pairs = sum(row[at][0] == "send" and row[at + 1] == ("take",) + row[at][1:] for at in range(many - 1))
                self.assertEqual(len(shown.split(" ")), many - pairs, row)
                self.assertEqual(len(shown), 6 * (many - pairs) - 1)
                self.assertEqual(read_row(shown), row)

    def test_rows_need_not_go(self):
        row = (taken("a b w"), taken("a b v"), sent("c a v"))
        self.assertEqual(show_row(row), "b?a:w b?a:v c!a:v")
        self.assertEqual(read_row("b?a:w b?a:v c!a:v"), row)


class Read(unittest.TestCase):

    def test_none(self):
        self.assertEqual(read_row("-"), ())

    def test_each_part(self):
        self.assertEqual(read_row("a!b:w"), (sent("a b w"),))
        self.assertEqual(read_row("b?a:w"), (taken("a b w"),))
        self.assertEqual(read_row("a>b:w"), (sent("a b w"), taken("a b w")))
        self.assertEqual(read_row("abcdefgh!bcdefghi:cdefghij"), (sent("abcdefgh bcdefghi cdefghij"),))

    def test_each_deed_its_own_part(self):
        self.assertEqual(read_row("a!b:w b?a:w"), (sent("a b w"), taken("a b w")))
        self.assertEqual(read_row("a>b:w a!b:w b?a:w"), (sent("a b w"), taken("a b w")) * 2)
        for row in itertools.product(ALL, repeat=3):
            text = " ".join(f"{d[1]}!{d[2]}:{d[3]}" if d[0] == "send" else f"{d[2]}?{d[1]}:{d[3]}" for d in row)
            self.assertEqual(read_row(text), row)

    def test_long_rows(self):
        row = (sent("a b w"), taken("c d v")) * 16
        self.assertEqual(read_row(show_row(row)), row)
        self.assertEqual(read_row(" ".join(["a>b:w"] * 16)), (sent("a b w"), taken("a b w")) * 16)

    def test_refused_as_a_whole(self):
        for text in ("", " ", "  ", " -", "- ", "--", "- -", "-\n", "\n", " a!b:w", "a!b:w ", "a!b:w  b?a:w",
                     "a!b:w\tb?a:w", "a!b:w\nb?a:w", "a!b:w\n", "\na!b:w", "a!b:w,b?a:w", "a!b:wb?a:w", "a!b:w, b?a:w",
                     "a!b:w - b?a:w", "- a!b:w", "a!b:w -", "a!b:w | b?a:w", "(a!b:w)", "a!b:w;b?a:w", "a!b:w.",
                     "a!b:w\u00a0b?a:w", "x" * 4000):
            self.refused(text)

    def test_refused_parts(self):
        wrong = ["a", "a!", "!", ":", "!:", "a!:", "!b:w", "?b:w", ">b:w", "a!:w", "a?:w", "a>:w", "a!b:", "a?b:",
                 "a>b:", "a!b", "a?b", "a>b", "ab:w", "a:w", "a:b!w", "a-b:w", "a<b:w", "a=b:w", "a!b;w", "a!b.w",
                 "a!b!w", "a:b:w", "a!?b:w", "a!>b:w", "a!!b:w", "a??b:w", "a>>b:w", "a!b::w", "a!b:w:", "a!b:w!",
                 "a!b:w?c", "a!b>c:w", "a?b!c:w", "a>b!c:w", "a>b?c:w", "a!b:w:v", "a!a:w", "a?a:w", "a>a:w",
                 "abc>abc:w", "A!b:w", "a!B:w", "a!b:W", "a1!b:w", "a!b1:w", "a!b:w1", "1!b:w", "a!b:1", "a_!b:w",
                 "abcdefghi!b:w", "a!abcdefghi:w", "a!b:abcdefghi", "\u00e9!b:w", "a!\u00e9:w", "a!b:\u00e9",
                 "send", "send,a,b,w", "send a b w", "a->b:w", "-a!b:w", "a!b:-", "a !b:w", "a! b:w", "a!b :w", "a!b: w"]
        for part in wrong:
            self.refused(part)
            self.refused("a!b:w " + part)
            self.refused(part + " a!b:w")

    def test_refused_what_is_no_text(self):
        for thing in any_things() + [0, 1, (), sent("a b w"), (sent("a b w"),), ["-"], ("-",), ["a!b:w"], b"-", b"a!b:w"]:
            if not isinstance(thing, str):
                self.refused(thing)

    def test_what_is_handed_in_stays(self):
        row = (sent("a b w"), taken("a b w"))
        self.assertEqual(kept(self, [row], show_row), "a>b:w")
        thing = ["a!b:w", ["-"]]
        self.refused(thing)
        self.assertEqual(thing, ["a!b:w", ["-"]])

    def refused(self, text):
        with self.assertRaises(NoText, msg=ascii(text)):
            read_row(text)


if __name__ == "__main__":
    unittest.main()
