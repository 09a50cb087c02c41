import random
import unittest

from talehands.books import book_by
from talehands.closings import closed_up
from talehands.desk import Desk
from talehands.errors import NoBook, NoCall, NoKept, NoRooms, NoText, TaleError, TooMany
from talehands.mends import mend
from talehands.plottexts import read_plot, show_plot
from talehands.rooms import least_rooms
from talehands.rowtexts import show_row
from talehands.seen import seen
from talehands.strays import stray
from talehands.stucks import stuck
from talehands.unasked import unasked
from tests.helpers import any_things, hands_in, names, row_from, seen_by, small_books, sound_in_one_room

PAIRS = "a>b:x c>d:x | a>b:y c>d:y"
EXACT = "a>b:x (b>a:yes | b>a:no) | a>b:y"
STUCK = "a>b:hi | b>a:no"
# Two letters each way that cross.
CROSSING = "a!b:w a!b:w b!a:w b!a:w b?a:w b?a:w a?b:w a?b:w"


def plot_of(book):
    """The text of a plot of the book."""
    return show_plot(("or", tuple(("row", story) for story in book)))


class DeskTest(unittest.TestCase):

    def desk(self, **books):
        """A desk that keeps the books of these plots."""
        desk = Desk()
        for name, plot in books.items():
            self.assertEqual(desk.say(f"book {name} {plot}"), "ok")
        return desk

    def says(self, desk, row, wanted):
        told = desk.say(row)
        self.assertIs(type(told), str)
        self.assertEqual(told, wanted, row)

    def refused(self, desk, row, error, name=None):
        with self.assertRaises(error, msg=repr(row)) as found:
            desk.say(row)
        if error is NoKept:
            self.assertEqual(found.exception.name, name)


class Rows(DeskTest):

    def test_book_and_show(self):
        desk = self.desk(p=PAIRS)
        self.says(desk, "show p", "a!b:x c!d:x b?a:x d?c:x; a!b:y c!d:y b?a:y d?c:y")
        self.says(desk, "book q (a>b:hi | a>b:ho) (b>a:yes)*0-1", "ok")
        self.says(desk, "show q", "a>b:hi; a>b:hi b>a:yes; a>b:ho; a>b:ho b>a:yes")
        self.says(desk, "book r -", "ok")
        self.says(desk, "show r", "-")
        self.says(desk, "book r - | a>b:w", "ok")
        self.says(desk, "show r", "-; a>b:w")

    def test_names_that_are_words_of_rows(self):
        desk = self.desk(book="a>b:w", show="b>a:w", paper="-")
        self.says(desk, "show book", "a>b:w")
        self.says(desk, "show show", "b>a:w")
        self.says(desk, "show paper", "-")
        self.says(desk, "book eightsig a>b:w", "ok")
        self.says(desk, "hands eightsig", "a b")

    def test_a_name_told_anew(self):
        desk = self.desk(p=PAIRS, q=STUCK)
        self.says(desk, "book p a>b:w", "ok")
        self.says(desk, "show p", "a>b:w")
        self.says(desk, "show q", "a>b:hi; b>a:no")

    def test_two_desks(self):
        one, other = self.desk(p=PAIRS), self.desk(q=STUCK)
        self.refused(one, "show q", NoKept, "q")
        self.refused(other, "show p", NoKept, "p")
        one.say("stray p -")
        self.says(other, "paper", "none")
        self.says(one, "paper", "holds")
        other.say("book p a>b:w")
        self.says(one, "hands p", "a b c d")

    def test_hands(self):
        desk = self.desk(p=PAIRS, q="anne>bob:w", r="-")
        self.says(desk, "hands p", "a b c d")
        self.says(desk, "hands q", "anne bob")
        self.says(desk, "hands r", "-")

    def test_view(self):
        desk = self.desk(p=PAIRS, q=EXACT)
        self.says(desk, "view p a 0", "a!b:x")
        self.says(desk, "view p d 1", "d?c:y")
        self.says(desk, "view p e 0", "-")
        self.says(desk, "view q b 0", "b?a:x b!a:no")
        self.says(desk, "view q b 1", "b?a:x b!a:yes")
        self.says(desk, "view q b 2", "b?a:y")
        forty = self.desk(p=" | ".join(f"a>b:{name}" for name in names(40)))
        self.says(forty, "view p a 39", "a!b:bn")
        self.says(forty, "view p b 10", "b?a:ak")
        self.refused(forty, "view p a 40", NoCall)

    def test_stray_stuck_unasked(self):
        desk = self.desk(p=PAIRS, q=EXACT, r=STUCK)
        for rooms in ("-", "1", "40"):
            self.says(desk, f"stray p {rooms}", "a!b:x c!d:y")
            self.says(desk, f"stuck p {rooms}", "moves")
            self.says(desk, f"unasked p {rooms}", "a!b:x c!d:y b?a:x d?c:y")
            self.says(desk, f"stray q {rooms}", "sound")
            self.says(desk, f"stuck q {rooms}", "moves")
            self.says(desk, f"unasked q {rooms}", "closed")
            self.says(desk, f"stuck r {rooms}", "a!b:hi b!a:no")
        self.says(desk, "book p a>b:x c>d:x | a>b:x | c>d:x", "ok")
        self.says(desk, "unasked p -", "-")
        self.says(desk, "stray p 1", "sound")

    def test_rooms_count(self):
        desk = self.desk(p=CROSSING, q=plot_of(sound_in_one_room()))
        self.says(desk, "stuck p 1", "a!b:w b!a:w")
        self.says(desk, "stuck p 2", "moves")
        self.says(desk, "stuck p -", "moves")
        self.says(desk, "stray q 1", "sound")
        self.assertNotEqual(desk.say("stray q 2"), "sound")
        self.assertEqual(desk.say("stray q -"), desk.say("stray q 40"))

    def test_close(self):
        desk = self.desk(p=PAIRS)
        self.says(desk, "close q p", "ok")
        four = "a!b:x c!d:x b?a:x d?c:x; a!b:x c!d:y b?a:x d?c:y; a!b:y c!d:x b?a:y d?c:x; a!b:y c!d:y b?a:y d?c:y"
        self.says(desk, "show q", four)
        self.says(desk, "show p", "a!b:x c!d:x b?a:x d?c:x; a!b:y c!d:y b?a:y d?c:y")
        self.says(desk, "close p p", "ok")
        self.says(desk, "show p", four)
        self.says(desk, "unasked p -", "closed")
        self.says(desk, "book q -", "ok")
        self.says(desk, "close q p", "ok")
        self.says(desk, "show q", four)

    def test_rooms(self):
        desk = self.desk(p=PAIRS, q=CROSSING, r="-", s=f"- | {CROSSING} | a>b:w")
        for name, many in (("p", "1"), ("q", "2"), ("r", "1"), ("s", "2")):
            self.says(desk, f"rooms {name}", many)
        ten = " ".join(["a!b:w"] * 6 + ["b!a:w"] * 6 + ["b?a:w"] * 6 + ["a?b:w"] * 6)
        self.says(self.desk(p=ten), "rooms p", "6")

    def test_seen(self):
        desk = self.desk(p=PAIRS, q="a>b:x c>d:y | a>b:y c>d:x", r="a>b:x c>d:x | a>b:y c>d:z", s="-")
        self.says(desk, "seen p q", "alike")
        self.says(desk, "seen p p", "alike")
        self.says(desk, "seen p r", "c")
        self.says(desk, "seen s p", "a")

    def test_mend(self):
        desk = self.desk(p=PAIRS, q=EXACT, r="a>b:x c>d:x e>d:x | a>b:y c>d:y e>d:y", s="-")
        self.says(desk, "mend p", "a c")
        self.says(desk, "mend q", "exact")
        self.says(desk, "mend r", "a c e")
        self.says(desk, "mend s", "exact")

    def test_as_the_functions_tell(self):
        desk = Desk()
        chance = random.Random(330)
        books = small_books()
        for book in books:
            other = chance.choice(books)
            self.says(desk, f"book p {plot_of(book)}", "ok")
            self.says(desk, f"book q {plot_of(other)}", "ok")
            self.says(desk, "show p", "; ".join(map(show_row, book)))
            self.says(desk, "hands p", " ".join(hands_in(book)) or "-")
            for number, story in enumerate(book):
                for hand in hands_in(book) + ("z",):
                    self.says(desk, f"view p {hand} {number}", show_row(seen_by(story, hand)))
            self.says(desk, "rooms p", str(max(map(least_rooms, book))))
            for word, ask in (("stray", stray), ("stuck", stuck), ("unasked", unasked)):
                for rooms in (None, 1, 2):
                    told = ask(book, rooms)
                    wanted = told[0] if told[0] in ("sound", "moves", "closed") else show_row(told[1])
                    self.says(desk, f"{word} p {rooms or '-'}", wanted)
                    self.says(desk, "paper", "holds")
            told = seen(book, other)
            self.says(desk, "seen p q", told[0] if told[0] == "alike" else told[1])
            self.says(desk, "paper", "holds")
            told = mend(book)
            self.says(desk, "mend p", "exact" if told is None else " ".join((told[0],) + told[1]))
            self.says(desk, "paper", "holds")
            self.says(desk, "close q p", "ok")
            self.says(desk, "show q", "; ".join(map(show_row, closed_up(book))))


class Paper(DeskTest):

    def test_none_ahead_of_any_question(self):
        desk = Desk()
        self.says(desk, "paper", "none")
        desk.say(f"book p {PAIRS}")
        for row in ("show p", "hands p", "view p a 0", "rooms p", "close q p", "paper"):
            desk.say(row)
            self.says(desk, "paper", "none")

    def test_holds_behind_each(self):
        desk = self.desk(p=PAIRS, q=EXACT, r=STUCK)
        for row in ("stray p -", "stray q 1", "stuck p 2", "stuck r -", "unasked p 40", "unasked q -", "seen p q",
                    "seen p p", "mend p", "mend q", "mend r"):
            desk.say(row)
            self.says(desk, "paper", "holds")
            self.says(desk, "paper", "holds")
            desk.say("rooms p")
            self.says(desk, "paper", "holds")

    def test_claims_that_are_kept(self):
        desk = self.desk(p=PAIRS, q=EXACT)
        pairs, exact = (book_by(read_plot(text)) for text in (PAIRS, EXACT))
        for row, claim in (("stray p -", ("stray", pairs, None, row_from("a!b:x c!d:y"))),
                           ("stray q 3", ("sound", exact, 3)), ("stuck p 2", ("moves", pairs, 2)),
                           ("unasked q -", ("closed", exact, None)), ("seen p q", ("parted", pairs, exact)),
                           ("seen q q", ("alike", exact, exact)), ("mend p", ("mends", pairs, "a", ("c",))),
                           ("mend q", ("closed", exact, None))):
            desk.say(row)
            self.assertEqual(desk.last[0], claim)
            self.says(desk, "paper", "holds")

    def test_whatever_is_kept_since(self):
        for row in ("stray p -", "stuck p 1", "unasked p -", "seen p q", "mend p", "mend q"):
            desk = self.desk(p=PAIRS, q=EXACT)
            desk.say(row)
            desk.say("book p b>a:w")
            desk.say("book q b>a:v")
            self.says(desk, "paper", "holds")
            desk.say("close p q")
            self.says(desk, "paper", "holds")

    def test_no_where_the_checker_does_not_take_it(self):
        desk = self.desk(p=PAIRS, q=EXACT)
        desk.say("stray p -")
        claim, paper = desk.last
        desk.last = (claim, paper[::-1])
        self.says(desk, "paper", "no")

    def test_what_is_refused_leaves_the_paper(self):
        desk = self.desk(p=PAIRS, q=EXACT)
        for row in ("stray p 41", "stray z -", "stuck p 0", "unasked p", "seen p z", "mend z", "nothing", "stray p 99"):
            with self.assertRaises(TaleError):
                desk.say(row)
            self.says(desk, "paper", "none")
        desk.say("mend p")
        last = desk.last
        for row in ("stray p 41", "stray z -", "stuck p 0", "unasked p", "seen p z", "mend z", "book p ?", "close p z"):
            with self.assertRaises(TaleError):
                desk.say(row)
            self.assertEqual(desk.last, last)
            self.says(desk, "paper", "holds")


class Refused(DeskTest):

    def test_no_call(self):
        desk = self.desk(p=PAIRS, q=EXACT)
        for row in ("", " ", "-", "p", "Show p", "SHOW p", "shows p", "sho p", "show", "show p q", "show  p", " show p",
                    "show p ", "show P", "show p1", "show -", "show ninesigns", "show p\n", "\nshow p", "show\np",
                    "show\tp", "hands", "hands p p", "hands p ", "view", "view p", "view p a", "view p a 0 0",
                    "view p a  0", "view p  a 0", "view p a 0 ", "view p A 0", "view P a 0", "view p a -",
                    "view p a 00", "view p a 01", "view p a 100", "view p a -1", "view p a +1", "view p a 1.",
                    "view p a x", "view p a 0x", "view p a \u0661", "view p a \u00b2", "view p 0 a", "stray",
                    "stray p", "stray p - -", "stray p  -", "stray p 0", "stray p 00", "stray p 01", "stray p 100",
                    "stray p -1", "stray p --", "stray p +1", "stray p 1.", "stray p x", "stray p \u0661",
                    "stray - p", "stray p 1 ", "stray P 1", "stuck p", "stuck p 0", "stuck p 00", "stuck p 09",
                    "unasked p", "unasked p 0", "unasked p 000", "close", "close p", "close p q q", "close P q",
                    "close p Q", "close p  q", "rooms", "rooms p 1", "rooms p p", "seen", "seen p", "seen p q p",
                    "seen p Q", "seen P q", "seen p -", "mend", "mend p a", "mend P", "paper p", "paper ", " paper",
                    "paper -", "Paper", "book", "book p", "book P a>b:w", "book  p a>b:w", "book - a>b:w",
                    "book p1 a>b:w", "book ninesigns a>b:w", "bookp a>b:w", " book p a>b:w", "Book p a>b:w",
                    "book\np a>b:w", "goes p 1", "holds", "none", "ok"):
            self.refused(desk, row, NoCall)
            self.refused(Desk(), row, NoCall)

    def test_what_is_no_text(self):
        for row in any_things() + [0, 1, ("show", "p"), ["show", "p"], b"show p"]:
            if not isinstance(row, str):
                self.refused(self.desk(p=PAIRS), row, NoCall)

    def test_no_kept(self):
        desk = self.desk(p=PAIRS)
        for row, name in (("show z", "z"), ("hands z", "z"), ("view z a 0", "z"), ("stray z -", "z"),
                          ("stuck z 1", "z"), ("unasked z 40", "z"), ("rooms z", "z"), ("mend z", "z"),
                          ("seen z p", "z"), ("seen p z", "z"), ("seen y z", "y"), ("seen z y", "z"),
                          ("close p z", "z"), ("close z y", "y"), ("close y y", "y"), ("show ab", "ab")):
            self.refused(desk, row, NoKept, name)

    def test_no_call_ahead_of_no_kept(self):
        desk = self.desk(p=PAIRS)
        for row in ("view z A 0", "view z a 00", "view z a 100", "stray z 0", "stray z 100", "stuck z x",
                    "unasked z 01", "seen z Z", "seen Z z", "close z Z", "close Z z", "show z z", "rooms z 1"):
            self.refused(desk, row, NoCall)

    def test_no_kept_ahead_of_the_rest(self):
        desk = self.desk(p=PAIRS)
        for row in ("view z a 99", "stray z 41", "stuck z 99", "unasked z 50"):
            self.refused(desk, row, NoKept, "z")

    def test_numbers_that_are_none_of_the_book(self):
        desk = self.desk(p=PAIRS, q="-")
        for row in ("view p a 2", "view p a 10", "view p a 99", "view p z 2", "view q a 1"):
            self.refused(desk, row, NoCall)
        self.says(desk, "view q a 0", "-")

    def test_no_rooms(self):
        desk = self.desk(p=PAIRS)
        for rooms in range(41, 100):
            for word in ("stray", "stuck", "unasked"):
                self.refused(desk, f"{word} p {rooms}", NoRooms)
        for rooms in range(1, 41):
            desk.say(f"stray p {rooms}")

    def test_books_that_are_none(self):
        desk = self.desk(p=PAIRS)
        for plot in ("", " ", "a", "a>b", "a>b:", "a>a:w", "(a>b:w", "a>b:w)", "a>b:w |", "| a>b:w", "a>b:w  b>a:w",
                     " a>b:w", "a>b:w ", "a>b:w\nb>a:w", "(a>b:w)*2-1", "(a>b:w)*0-5", "A>b:w", "a>b:w|b>a:w"):
            self.refused(desk, f"book p {plot}", NoText)
            self.refused(desk, f"book q {plot}", NoText)
        for plot in ("a!b:w", "b?a:w", "a>b:w | a!b:w", "a>b:w c>d:w e>f:w",
                     " | ".join(f"a>b:{name}" for name in names(41))):
            self.refused(desk, f"book p {plot}", NoBook)
            self.refused(desk, f"book q {plot}", NoBook)
        for plot in ("((a>b:x | a>b:y)*4-4)*2-2", " ".join(["a>b:w"] * 13), "(a!b:w)*4-4 " * 6 + "a!b:w"):
            self.refused(desk, f"book p {plot}", TooMany)
            self.refused(desk, f"book q {plot}", TooMany)
        self.refused(desk, "show q", NoKept, "q")
        self.says(desk, "show p", "a!b:x c!d:x b?a:x d?c:x; a!b:y c!d:y b?a:y d?c:y")

    def test_too_many_standings(self):
        stories = [f"a>b:{name} a>b:w a>b:w a>b:w c>d:{name} c>d:w c>d:w c>d:w" for name in names(6)]
        desk = self.desk(p=" | ".join(stories), q=PAIRS)
        desk.say("stray q -")
        last = desk.last
        for row in ("stray p -", "stuck p -", "unasked p 40", "mend p", "close p p", "close q p", "close r p"):
            self.refused(desk, row, TooMany)
            self.assertEqual(desk.last, last)
        self.refused(desk, "show r", NoKept, "r")
        self.says(desk, "hands q", "a b c d")
        self.says(desk, "show q", "a!b:x c!d:x b?a:x d?c:x; a!b:y c!d:y b?a:y d?c:y")

    def test_too_many_stories_to_close(self):
        desk = self.desk(p=" | ".join(f"a>b:{name} c>d:{name}" for name in names(7)))
        shown = desk.say("show p")
        self.refused(desk, "close p p", TooMany)
        self.refused(desk, "close q p", TooMany)
        self.says(desk, "show p", shown)
        self.refused(desk, "show q", NoKept, "q")

    def test_what_is_refused_changes_nothing(self):
        desk = self.desk(p=PAIRS)
        for row in ("book q ?", "book q a!b:w", "book Q a>b:w", "close q z", "close q", "show q"):
            with self.assertRaises(TaleError):
                desk.say(row)
            self.refused(desk, "hands q", NoKept, "q")
        self.says(desk, "hands p", "a b c d")

    def test_told_again(self):
        desk = self.desk(p=PAIRS, q=EXACT, r=STUCK)
        rows = ["show p", "hands q", "view q b 0", "stray p -", "stuck r 1", "unasked p 2", "rooms p", "seen p q",
                "mend p", "mend q"]
        first = [desk.say(row) for row in rows]
        random.Random(331).shuffle(rows)
        again = {row: desk.say(row) for row in rows}
        fresh = self.desk(p=PAIRS, q=EXACT, r=STUCK)
        for row in rows:
            self.says(fresh, row, again[row])
        self.assertEqual(sorted(first), sorted(again.values()))


if __name__ == "__main__":
    unittest.main()
