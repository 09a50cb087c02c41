"""The desk: keeps books by names and answers rows of words with texts."""

from talehands.books import book_by, book_hands
from talehands.booktexts import show_book
from talehands.checker import holds
from talehands.closings import closed_up
from talehands.errors import NoCall, NoKept
from talehands.papers import paper_mends, paper_seen, paper_stuck, paper_strays, paper_unasked
from talehands.plottexts import read_plot
from talehands.rooms import least_rooms
from talehands.rowtexts import show_row
from talehands.views import view
from talehands.words import is_name

FIGURES = "0123456789"
NONE = "-"
# By the first word of a row what its other words are: kept is a name by which a book must stand.
FIELDS = {
    "book": ("name", "plot"),
    "show": ("kept",),
    "hands": ("kept",),
    "view": ("kept", "name", "number"),
    "stray": ("kept", "rooms"),
    "stuck": ("kept", "rooms"),
    "unasked": ("kept", "rooms"),
    "close": ("name", "kept"),
    "rooms": ("kept",),
    "seen": ("kept", "kept"),
    "mend": ("kept",),
    "paper": (),
}


def words_of(row):
    """The list of the words of the row, or NoCall; a plot is one word, with all its blanks."""
    if not isinstance(row, str):
        raise NoCall("what is no text is no row")
    words = row.split(" ", 2) if row.startswith("book ") else row.split(" ")
    if words[0] not in FIELDS or len(words) != 1 + len(FIELDS[words[0]]):
        raise NoCall("no row has this first word and so many others")
    for field, word in zip(FIELDS[words[0]], words[1:]):
        if not is_field(field, word):
            raise NoCall(f"this is none of the row's words: {word}")
    return words


def is_field(field, word):
    """Whether the word is what the field must be; of plots their own reader tells."""
    if field == "plot":
        return True
    if field == "rooms":
        return word == NONE or is_short_number(word) and word != "0"
    if field == "number":
        return is_short_number(word)
    return is_name(word)


def is_short_number(word):
    """Whether the word is one figure or two, without a nought ahead but 0 itself."""
    if not 1 <= len(word) <= 2 or not all([sign in FIGURES for sign in word]):
        return False
    return word == "0" or word[0] != "0"


def check_kept(desk, words):
    """Refuse with NoKept the first name by which a book must stand and none does."""
    for field, word in zip(FIELDS[words[0]], words[1:]):
        if field == "kept" and word not in desk.kept:
            raise NoKept(word)


def joined_words(words):
    """The words with blanks between."""
    return " ".join(words) if words else NONE


def rooms_told(word):
    """The rooms that the word tells."""
    return None if word == NONE else int(word)


def say_book(desk, words):
    """Keep the plot's book by the name."""
    desk.kept[words[1]] = book_by(read_plot(words[2]))
    return "ok"


def say_show(desk, words):
    """The book's text in one line."""
    return show_book(desk.kept[words[1]]).replace("\n", "; ")


def say_hands(desk, words):
    """The hands of the book."""
    return joined_words(book_hands(desk.kept[words[1]]))


def say_view(desk, words):
    """The hand's view of the story with the number, or NoCall."""
    book = desk.kept[words[1]]
    number = int(words[3])
    if number >= len(book):
        raise NoCall("the book has no story with this number")
    return show_row(view(book[number], words[2]))


def say_stray(desk, words):
    """Whether the book is sound, or a run that strays."""
    return answer(desk, paper_strays(desk.kept[words[1]], rooms_told(words[2])))


def say_stuck(desk, words):
    """Whether the book always moves, or a run to a stuck standing."""
    return answer(desk, paper_stuck(desk.kept[words[1]], rooms_told(words[2])))


def say_unasked(desk, words):
    """Whether the book is closed, or an unasked story."""
    return answer(desk, paper_unasked(desk.kept[words[1]], rooms_told(words[2])))


def answer(desk, told):
    """Keep the claim and its paper; the claim's word where a table shows it, else the row that it names."""
    desk.last = told
    claim = told[0]
    return show_row(claim[3]) if len(claim) == 4 else claim[0]


def say_close(desk, words):
    """Keep the other name's book, closed up, by the first name."""
    desk.kept[words[1]] = closed_up(desk.kept[words[2]])
    return "ok"


def say_rooms(desk, words):
    """The least rooms within which each story of the book can be run."""
    return str(max([least_rooms(story) for story in desk.kept[words[1]]]))


def say_seen(desk, words):
    """Whether the two books are seen alike, or the hand that parts them."""
    desk.last = paper_seen(desk.kept[words[1]], desk.kept[words[2]])
    claim, paper = desk.last
    return "alike" if claim[0] == "alike" else paper[0]


def say_mend(desk, words):
    """Whether the book is exact, or the leader and the hands that mend it."""
    book = desk.kept[words[1]]
    told = paper_mends(book)
    if told is None:
        desk.last = paper_unasked(book, None)
        return "exact"
    desk.last = told
    word, opened_book, leader, hands = told[0]
    return joined_words((leader,) + hands)


def say_paper(desk, words):
    """Whether the checker takes what was answered last."""
    if desk.last is None:
        return "none"
    claim, paper = desk.last
    return "holds" if holds(claim, paper) else "no"


ANSWERS = {
    "book": say_book, "show": say_show, "hands": say_hands, "view": say_view, "stray": say_stray,
    "stuck": say_stuck, "unasked": say_unasked, "close": say_close, "rooms": say_rooms, "seen": say_seen,
    "mend": say_mend, "paper": say_paper,
}


class Desk:
    """A desk: kept are its books by their names, last the claim and the paper that were answered last, or None."""

    def __init__(self):
        self.kept = {}
        self.last = None

    def say(self, row):
        """The text that answers the row, or NoCall, NoKept, or as the functions refuse."""
        words = words_of(row)
        check_kept(self, words)
        action = ANSWERS[words[0]]
        return action(self, words)
