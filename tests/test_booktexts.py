import unittest

from talehands.booktexts import read_book, show_book
from talehands.errors import NoText
from talehands.rowtexts import show_row
from tests.helpers import any_things, book_from, chance_books, kept, letters, names, told_book


def text_of(rows):
    return "\n".join(show_row(row) for row in rows)


class Shown(unittest.TestCase):

    def test_stories_with_a_line_end_between(self):
        self.assertEqual(show_book(told_book("-")), "-")
        self.assertEqual(show_book(told_book("a>b:w")), "a>b:w")
        self.assertEqual(show_book(told_book("b>a:w", "-", "a!b:x b?a:x")), "-\na>b:x\nb>a:w")
        self.assertEqual(show_book(told_book("c>d:w a>b:w")), "a!b:w c!d:w b?a:w d?c:w")

    def test_read_again(self):
        for one in chance_books(70, 60, 6, 8) + chance_books(71, 20, 20, 32, "abcde"):
            text = show_book(one)
            self.assertIs(type(text), str)
            self.assertEqual(text, text_of(one))
            self.assertEqual(read_book(text), one)

    def test_forty_stories(self):
        most = book_from(letters("a", "b", [name]) for name in names(40))
        self.assertEqual(read_book(show_book(most)), most)
        self.assertEqual(show_book(most).count("\n"), 39)


class Read(unittest.TestCase):

    def test_few(self):
        self.assertEqual(read_book("-"), ((),))
        self.assertEqual(read_book("-\na>b:x\nb>a:w"), told_book("-", "a>b:x", "b>a:w"))
        self.assertEqual(read_book("a!b:w c!d:w b?a:w d?c:w"), told_book("a>b:w c>d:w"))

    def test_another_order_or_twice(self):
        for text in ("b>a:w\na>b:w", "a>b:w\n-", "a>b:w\na>b:w", "-\n-", "a>b:y\na>b:x", "-\na>b:x\na>b:x"):
            self.refused(text)

    def test_not_their_least(self):
        for text in ("c>d:w a>b:w", "a>b:w c>d:w", "a!b:w c!d:w d?c:w b?a:w", "-\na>b:w c>d:w", "a>b:w a>b:w"):
            self.refused(text)

    def test_not_as_short_as_they_are_written(self):
        for text in ("a!b:w b?a:w", "-\na!b:w b?a:w", "a>b:w\na!b:x b?a:x", "a!b:w a!b:w b?a:w b?a:w"):
            self.refused(text)
        self.assertEqual(read_book("a!b:w a>b:w b?a:w"), told_book("a>b:w a>b:w"))

    def test_line_ends_and_blanks(self):
        for text in ("", "\n", "-\n", "\n-", "a>b:w\n", "\na>b:w", "-\n\na>b:w", " -", "- ", "a>b:w ", " a>b:w", "-\n a>b:w",
                     "- \na>b:w", "-\r\na>b:w", "-\ra>b:w", "-; a>b:w", "- a>b:w", "a>b:w -", "-\x0ba>b:w", "-\x0ca>b:w",
                     "-\u2028a>b:w", "a>b:w  b>a:w"):
            self.refused(text)

    def test_no_stories(self):
        for text in ("a!b:w", "b?a:w", "-\na!b:w", "a>b:w\nb?a:w", "a!b:w b?a:x", "a", "A>b:w", "a>a:w", "a>b:w\n?",
                     "(a>b:w)", "a>b:w | b>a:w", "a!b:" + "w" * 9):
            self.refused(text)

    def test_too_many(self):
        self.refused(text_of(sorted(letters("a", "b", [name]) for name in names(41))))
        self.refused(text_of(sorted(letters("a", "b", [name]) for name in names(201))))
        self.refused(text_of(sorted(letters(*pair, "w") for pair in ("ab", "cd", "ef"))))
        most = show_book(book_from([letters("a", "b", "w" * 16)]))
        self.assertEqual(len(read_book(most)[0]), 32)
        self.refused("a!b:w " + most + " b?a:w")

    def test_what_is_no_text(self):
        for thing in any_things() + [0, 1, (), ((),), told_book("a>b:w"), ["-"], ("-",), b"-", b"a>b:w", {"-": 1}]:
            if not isinstance(thing, str):
                self.refused(thing)

    def test_what_is_handed_in_stays(self):
        one = told_book("a>b:w", "b>a:w")
        text = kept(self, [one], show_book)
        self.assertEqual(kept(self, [text], read_book), one)
        thing = ["-", ["a>b:w"]]
        self.refused(thing)
        self.assertEqual(thing, ["-", ["a>b:w"]])

    def refused(self, text):
        with self.assertRaises(NoText, msg=ascii(text)):
            read_book(text)


if __name__ == "__main__":
    unittest.main()
