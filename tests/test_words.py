import unittest

from talehands.words import is_name, is_whole
from tests.helpers import any_things, kept


class Words(unittest.TestCase):

    def test_whole_numbers(self):
        for number in (0, 1, -1, 41, 10 ** 30, -10 ** 30, 10 ** 5000):
            self.assertIs(is_whole(number), True)

    def test_what_is_no_whole_number(self):
        for thing in any_things() + ["a", (0,), [0]]:
            self.assertIs(is_whole(thing), False, repr(thing))

    def test_names(self):
        for name in ("a", "z", "m", "ab", "azazaza", "abcdefgh", "zzzzzzzz", "send", "take"):
            self.assertIs(is_name(name), True, name)
        for letter in "abcdefghijklmnopqrstuvwxyz":
            self.assertIs(is_name(letter), True)
            self.assertIs(is_name(letter * 8), True)

    def test_texts_that_are_no_names(self):
        wrong = ["", "abcdefghi", "a" * 9, "a" * 4000, "A", "aB", "Ab", "a1", "1", "0", "a b", " a", "a ", "a\n", "\n",
                 "a-b", "-", "a_b", "_", "`", "{", "a!", "a:b", "\u00e9", "a\u00e9", "\u00df", "\u0430", "\uff41",
                 "\u00aa", "\u0131", "\ud800", "a\u0301", "\U0001d41a"]
        for text in wrong:
            self.assertIs(is_name(text), False, ascii(text))

    def test_things_that_are_no_names(self):
        for thing in any_things() + [0, 1, 97, ("a",), ["a"], ["a", "b"], {"a": "b"}]:
            self.assertIs(is_name(thing), False, repr(thing))

    def test_what_is_handed_in_stays(self):
        for thing in (["a"], {"a": ["b"]}, ("a", ["b"]), {"a"}):
            kept(self, [thing], is_name)
            kept(self, [thing], is_whole)


if __name__ == "__main__":
    unittest.main()
