"""Stories run with few rooms for the letters under way from X to Y."""

from talehands.deeds import hand_of
from talehands.errors import NoRooms
from talehands.lines import do_deed, lines_behind
from talehands.words import is_whole

MOST_ROOMS = 40


def is_rooms(thing):
    """Whether the thing is a whole number from 1 to 40, or None: as many as may be."""
    return thing is None or is_whole(thing) and 1 <= thing <= MOST_ROOMS


def check_rooms(rooms):
    """Refuse with NoRooms what is no whole number from 1 to 40; None is let."""
    if not is_rooms(rooms):
        raise NoRooms("rooms are a whole number from 1 to 40")


def keeps(row, rooms):
    """Whether at most so many letters of each X and Y are under way behind each deed of the row, or NoRooms."""
    lines_behind(row)
    check_rooms(rooms)
    lines = {}
    for deed in row:
        do_deed(lines, deed)
        if rooms is not None and len(lines[deed[1:3]]) > rooms:
            return False
    return True


def run_within(story, rooms):
    """("row", row), alike to the story and within the rooms, or ("round", numbers) that bars it, or NoRooms."""
    lines_behind(story)
    check_rooms(rooms)
    return row_or_round(story, len(story) if rooms is None else rooms)


def least_rooms(story):
    """The least number of rooms within which the story can be run."""
    lines_behind(story)
    rooms = 1
    while row_or_round(story, rooms)[0] == "round":
        rooms += 1
    return rooms


def row_or_round(story, rooms):
    """As run_within, of any number of rooms."""
    ahead = all_ahead(story, rooms)
    done = []
    left = list(range(len(story)))
    while left:
        free = [number for number in left if not waits_for(ahead[number], left)]
        if not free:
            return ("round", round_among(left, ahead))
        done += free
        left = [number for number in left if number not in free]
    return ("row", tuple([story[number] for number in done]))


def waits_for(numbers, left):
    """Those of the numbers that are left."""
    return [number for number in numbers if number in left]


def round_among(left, ahead):
    """A round of the numbers left, each of which waits for another one of them.

    So, going back from any of them, one comes to a number again; told the other way about, it is a round.
    """
    path = [left[0]]
    while True:
        back = waits_for(ahead[path[-1]], left)[0]
        if back in path:
            return tuple(path[path.index(back):][::-1])
        path.append(back)


def all_ahead(story, rooms):
    """For each deed, by its number, the list of the numbers of those that must come just ahead of it."""
    views, letters = numbers_by(story)
    ahead = [[] for deed in story]
    for numbers in views.values():
        for first, second in zip(numbers, numbers[1:]):
            ahead[second].append(first)
    for sent, taken in letters.values():
        for sending, taking in zip(sent, taken):
            ahead[taking].append(sending)
        for taking, sending in zip(taken, sent[rooms:]):
            ahead[sending].append(taking)
    return ahead


def numbers_by(story):
    """The numbers of the deeds by hand, and by (X, Y) those of the sendings and of the takings."""
    views = {}
    letters = {}
    for number, deed in enumerate(story):
        views.setdefault(hand_of(deed), []).append(number)
        sent, taken = letters.setdefault(deed[1:3], ([], []))
        if deed[0] == "send":
            sent.append(number)
        else:
            taken.append(number)
    return views, letters
