"""The checker: takes a claim with its paper, or not, and trusts nobody.

Claims and papers are of any kind, so of each part its form is looked at first. What renamings and openings are
stands here once more, since the files by which answers are found aren't trusted.
"""

from talehands.books import book_hands, is_book
from talehands.deeds import is_deed, is_row
from talehands.lines import is_story
from talehands.orders import least_row
from talehands.rooms import all_ahead, is_rooms, keeps
from talehands.views import alike, view
from talehands.walks import Walk, deeds_on, is_run_in, is_stuck_behind, is_whole_in, reached_in
from talehands.words import LETTERS, is_name, is_whole

MOST_TABLE_ROWS = 3000


def is_pair(thing):
    """Whether the thing is a tuple of two parts."""
    return isinstance(thing, tuple) and len(thing) == 2


def is_number_of(parts, thing):
    """Whether the thing is the number of one of the parts."""
    return is_whole(thing) and 0 <= thing < len(parts)


def goes(claim, paper):
    """The paper is a row alike to the story that keeps to the rooms."""
    word, story, rooms = claim
    return is_story(story) and is_rooms(rooms) and alike(story, paper) and keeps(paper, rooms)


def goes_not(claim, paper):
    """The paper is a round of deeds of the story."""
    word, story, rooms = claim
    if not is_story(story) or not is_rooms(rooms) or rooms is None:
        return False
    if not isinstance(paper, tuple) or not all([is_number_of(story, number) for number in paper]):
        return False
    if len(paper) < 2 or len(set(paper)) != len(paper):
        return False
    ahead = all_ahead(story, rooms)
    return all([first in ahead[second] for first, second in zip(paper, paper[1:] + paper[:1])])


def can_work(book, rooms):
    """Whether these are a book and rooms."""
    return is_book(book) and is_rooms(rooms)


def is_table(walk, table, is_told):
    """Whether the table has just the standings reached, rising, each with what is told of it.

    Of a standing, the lines under way behind it and what the table tells of it, is_told says whether it is so.
    """
    if not isinstance(table, tuple) or len(table) > MOST_TABLE_ROWS:
        return False
    if not all([is_pair(row) and are_rows(row[0]) for row in table]):
        return False
    reached = reached_in(walk, len(table))
    if reached is None or [row[0] for row in table] != sorted(reached):
        return False
    return all([is_told(walk, standing, reached[standing], told) for standing, told in table])


def are_rows(thing):
    """Whether the thing is a tuple of rows."""
    return isinstance(thing, tuple) and all([is_row(part) for part in thing])


def begins_told(walk, standing, lines, number):
    """Whether the standing is a beginning of the story with the number."""
    if not is_number_of(walk.book, number):
        return False
    return all([views[number][:len(begun)] == begun for begun, views in zip(standing, walk.views)])


def moves_by_told(walk, standing, lines, deed):
    """Whether the deed can go on; where it is None, whether none can, and the standing is whole."""
    can = deeds_on(walk, standing, lines)
    if deed is None:
        return not can and is_whole_in(walk, standing, lines)
    return is_deed(deed) and deed in can


def closes_as_told(walk, standing, lines, number):
    """Whether the standing is the story with the number; where it is None, whether it isn't whole."""
    if number is None:
        return not is_whole_in(walk, standing, lines)
    if not is_number_of(walk.book, number):
        return False
    return all([views[number] == ended for ended, views in zip(standing, walk.views)])


def sound(claim, paper):
    """The paper is a table with a story of which each standing is a beginning."""
    word, book, rooms = claim
    return can_work(book, rooms) and is_table(Walk(book, rooms), paper, begins_told)


def moves(claim, paper):
    """The paper is a table with a deed that can go on, None where none can and none need."""
    word, book, rooms = claim
    return can_work(book, rooms) and is_table(Walk(book, rooms), paper, moves_by_told)


def closed(claim, paper):
    """The paper is a table with the story that each whole standing is."""
    word, book, rooms = claim
    return can_work(book, rooms) and is_table(Walk(book, rooms), paper, closes_as_told)


def stray(claim, paper):
    """The paper tells for each story a hand that sees otherwise than the run tells."""
    word, book, rooms, run = claim
    if not can_work(book, rooms) or not is_run_in(Walk(book, rooms), run):
        return False
    if not isinstance(paper, tuple) or len(paper) != len(book):
        return False
    return all([is_name(hand) and sees_otherwise(hand, run, story) for hand, story in zip(paper, book)])


def sees_otherwise(hand, run, story):
    """Whether the hand's view of the run is no beginning of its view of the story."""
    begun = view(run, hand)
    return view(story, hand)[:len(begun)] != begun


def stuck(claim, paper):
    """The run leads to a stuck standing."""
    word, book, rooms, run = claim
    if paper is not None or not can_work(book, rooms):
        return False
    walk = Walk(book, rooms)
    return is_run_in(walk, run) and is_stuck_behind(walk, run)


def unasked(claim, paper):
    """The paper is a run to the story and for each hand a story of which it has the view."""
    word, book, rooms, story = claim
    if not can_work(book, rooms) or not is_pair(paper):
        return False
    run, numbers = paper
    walk = Walk(book, rooms)
    if not is_run_in(walk, run) or not is_story(run) or not is_row(story):
        return False
    return story == least_row(run) and story not in book and have_views(walk, run, numbers)


def have_views(walk, run, numbers):
    """Whether each hand's view of the run is its view of the story that the numbers, of any kind, tell."""
    if not isinstance(numbers, tuple) or len(numbers) != len(walk.hands):
        return False
    if not all([is_number_of(walk.book, number) for number in numbers]):
        return False
    told = [views[number] for views, number in zip(walk.views, numbers)]
    return told == [view(run, hand) for hand in walk.hands]


def views_of(book, hand):
    """The list of the hand's views of the stories of the book, rising, each once."""
    return sorted({view(story, hand) for story in book})


def seen_alike(claim, paper):
    """Each hand has the same views of both books."""
    word, book, other = claim
    if paper is not None or not is_book(book) or not is_book(other):
        return False
    return all([views_of(book, hand) == views_of(other, hand) for hand in book_hands(book + other)])


def parted(claim, paper):
    """The paper is a hand and a view that it has in just one of the books."""
    word, book, other = claim
    if not is_book(book) or not is_book(other) or not is_pair(paper):
        return False
    hand, told = paper
    if not is_name(hand) or not is_row(told):
        return False
    return (told in views_of(book, hand)) != (told in views_of(other, hand))


def renamed(claim, paper):
    """The paper is a renaming that makes the other book of the book."""
    word, book, other = claim
    if not is_book(book) or not is_book(other) or not isinstance(paper, tuple):
        return False
    if not all([is_pair(part) and is_name(part[0]) and is_name(part[1]) for part in paper]):
        return False
    if tuple([hand for hand, name in paper]) != book_hands(book) or len({name for hand, name in paper}) != len(paper):
        return False
    names = dict(paper)
    stories = [[(kind, names[giver], names[taker], text) for kind, giver, taker, text in story] for story in book]
    return other == tuple(sorted([least_row(tuple(story)) for story in stories]))


def mends(claim, paper):
    """The paper is two tables, which show that the opened book is sound, and closed."""
    word, book, leader, hands = claim
    if not is_book(book) or not can_be_opened(book, leader, hands) or not is_pair(paper):
        return False
    walk = Walk(book_opened(book, leader, hands), None)
    return is_table(walk, paper[0], begins_told) and is_table(walk, paper[1], closes_as_told)


def can_be_opened(book, leader, hands):
    """Whether the leader is a hand of the book, and the hands, of any kind, a rising tuple of others."""
    if not isinstance(hands, tuple) or not all([is_name(hand) for hand in hands + (leader,)]):
        return False
    others = [hand for hand in book_hands(book) if hand != leader]
    return leader in book_hands(book) and list(hands) == [hand for hand in others if hand in hands]


def book_opened(book, leader, hands):
    """The book in each story of which the leader first sends each of the hands the story's word."""
    stories = []
    for number, story in enumerate(book):
        text = LETTERS[number // 26] + LETTERS[number % 26]
        deeds = []
        for hand in hands:
            deeds += [("send", leader, hand, text), ("take", leader, hand, text)]
        stories.append(least_row(tuple(deeds) + story))
    return tuple(sorted(stories))


# By the first word of a claim how many parts it has, and what it is with its paper.
PARTS = {
    "goes": 3, "goes not": 3, "sound": 3, "stray": 4, "moves": 3, "stuck": 4, "closed": 3, "unasked": 4,
    "alike": 3, "parted": 3, "renamed": 3, "mends": 4,
}
CLAIMS = {
    "goes": goes, "goes not": goes_not, "sound": sound, "stray": stray, "moves": moves, "stuck": stuck,
    "closed": closed, "unasked": unasked, "alike": seen_alike, "parted": parted, "renamed": renamed, "mends": mends,
}


def holds(claim, paper):
    """Whether the claim and its paper, of any kind, are as told, so that it is so."""
    if not isinstance(claim, tuple) or len(claim) == 0 or not isinstance(claim[0], str):
        return False
    if claim[0] not in PARTS or len(claim) != PARTS[claim[0]]:
        return False
    check = CLAIMS[claim[0]]
    return check(claim, paper)
