"""Claims and papers judged by plain walking, to hold the checker against; nothing here uses the program."""

import functools
import itertools
import random
import re

from tests.helpers import (all_runs, all_seen, begins, book_from, can_follow, hands_in, is_exact_book, is_whole_behind,
                           keeps_to, least_alike, lines_of, must_come_ahead, named_otherwise, seen_by, told_ahead,
                           views_in, walked)


def same(thing, other):
    """Whether they are the same to the kinds of all parts: 1 isn't True, a list no tuple."""
    return repr(thing) == repr(other)


def right_name(thing):
    return type(thing) is str and re.fullmatch("[a-z]{1,8}", thing) is not None


def right_deed(thing):
    return (type(thing) is tuple and len(thing) == 4 and type(thing[0]) is str and thing[0] in ("send", "take")
            and all(map(right_name, thing[1:])) and thing[1] != thing[2])


def right_row(thing):
    return type(thing) is tuple and all(map(right_deed, thing)) and lines_of(thing) is not None


def right_story(thing):
    return right_row(thing) and lines_of(thing) == {}


def right_rooms(thing):
    return thing is None or type(thing) is int and 1 <= thing <= 40


def right_book(thing):
    if type(thing) is not tuple or not 1 <= len(thing) <= 40 or not all(map(right_story, thing)):
        return False
    return book_from(thing) == thing and len(hands_in(thing)) <= 5 and max(map(len, thing)) <= 32


def right_number(many, thing):
    return type(thing) is int and 0 <= thing < many


def right_run(book, rooms, thing):
    if not right_row(thing) or not all(keeps_to(thing[:at + 1], rooms) for at in range(len(thing))):
        return False
    return all(any(one[:len(seen)] == seen for one in views_in(book, hand)) for hand, seen in all_seen(thing).items())


def next_of(book, rooms, run):
    """The deeds by which the run, with one more, is a run again."""
    deeds = {deed for story in book for deed in story}
    return [deed for deed in deeds if can_follow(run, deed, rooms) and right_run(book, rooms, run + (deed,))]


def right_table(book, rooms, table, told):
    found = walked(book, rooms)
    if type(table) is not tuple or found is None or len(table) != len(found):
        return False
    return all(type(row) is tuple and len(row) == 2 and same(row[0], standing) and told(found[standing], row[1])
               for standing, row in zip(sorted(found), table))


def right_sound(book, rooms, table):
    return right_table(book, rooms, table, lambda run, told: right_number(len(book), told) and begins(run, book[told]))


def right_moves(book, rooms, table):
    def told(run, deed):
        if deed is None:
            return not next_of(book, rooms, run) and is_whole_behind(book, run)
        return any(same(deed, one) for one in next_of(book, rooms, run))
    return right_table(book, rooms, table, told)


def right_closed(book, rooms, table):
    def told(run, number):
        if not is_whole_behind(book, run):
            return number is None
        return right_number(len(book), number) and book[number] == least_alike(run)
    return right_table(book, rooms, table, told)


def judge_goes(story, rooms, paper):
    return (right_story(story) and right_rooms(rooms) and right_row(paper) and all_seen(paper) == all_seen(story)
            and keeps_to(paper, rooms))


def judge_goes_not(story, rooms, paper):
    if not right_story(story) or not right_rooms(rooms) or rooms is None or type(paper) is not tuple or len(paper) < 2:
        return False
    if not all(right_number(len(story), number) for number in paper) or len(set(paper)) < len(paper):
        return False
    return set(zip(paper, paper[1:] + paper[:1])) <= must_come_ahead(story, rooms)


def at_work(judge):
    """The judge, of books and rooms alone."""
    return lambda book, rooms, *more: right_book(book) and right_rooms(rooms) and judge(book, rooms, *more)


def of_books(judge):
    """The judge, of two books alone."""
    return lambda book, other, paper: right_book(book) and right_book(other) and judge(book, other, paper)


def judge_stray(book, rooms, run, paper):
    if not right_run(book, rooms, run) or type(paper) is not tuple or len(paper) != len(book):
        return False
    return all(right_name(hand) and seen_by(story, hand)[:len(seen_by(run, hand))] != seen_by(run, hand)
               for hand, story in zip(paper, book))


def judge_stuck(book, rooms, run, paper):
    return (paper is None and right_run(book, rooms, run) and not next_of(book, rooms, run)
            and not is_whole_behind(book, run))


def judge_unasked(book, rooms, story, paper):
    if type(paper) is not tuple or len(paper) != 2 or not right_run(book, rooms, paper[0]) or lines_of(paper[0]):
        return False
    run, numbers = paper
    if type(numbers) is not tuple or len(numbers) != len(hands_in(book)):
        return False
    if not all(right_number(len(book), number) and seen_by(book[number], hand) == seen_by(run, hand)
               for number, hand in zip(numbers, hands_in(book))):
        return False
    return same(story, least_alike(run)) and story not in book


def judge_alike(book, other, paper):
    return paper is None and all(views_in(book, hand) == views_in(other, hand) for hand in hands_in(book + other))


def judge_parted(book, other, paper):
    if type(paper) is not tuple or len(paper) != 2 or not right_name(paper[0]):
        return False
    ours, theirs = ([repr(one) for one in views_in(part, paper[0])] for part in (book, other))
    return (repr(paper[1]) in ours) != (repr(paper[1]) in theirs)


def judge_renamed(book, other, paper):
    if type(paper) is not tuple or not all(type(part) is tuple and len(part) == 2 and all(map(right_name, part))
                                           for part in paper):
        return False
    if tuple(hand for hand, name in paper) != hands_in(book) or len({name for hand, name in paper}) < len(paper):
        return False
    return named_otherwise(book, paper) == other


def judge_mends(book, leader, hands, paper):
    if not right_book(book) or not right_name(leader) or type(hands) is not tuple or not all(map(right_name, hands)):
        return False
    if not {leader, *hands} <= set(hands_in(book)) or leader in hands or list(hands) != sorted(set(hands)):
        return False
    made = told_ahead(book, leader, hands)
    return (type(paper) is tuple and len(paper) == 2 and right_sound(made, None, paper[0])
            and right_closed(made, None, paper[1]))


JUDGES = {
    "goes": (3, judge_goes), "goes not": (3, judge_goes_not), "sound": (3, at_work(right_sound)),
    "stray": (4, at_work(judge_stray)), "moves": (3, at_work(right_moves)), "stuck": (4, at_work(judge_stuck)),
    "closed": (3, at_work(right_closed)), "unasked": (4, at_work(judge_unasked)), "alike": (3, of_books(judge_alike)),
    "parted": (3, of_books(judge_parted)), "renamed": (3, of_books(judge_renamed)), "mends": (4, judge_mends),
}


def is_right(claim, paper):
    """Whether the claim with the paper is as the document tells."""
    if type(claim) is not tuple or not claim or type(claim[0]) is not str or claim[0] not in JUDGES:
        return False
    parts, judge = JUDGES[claim[0]]
    return len(claim) == parts and judge(*claim[1:], paper)


def is_so(claim):
    """Whether what the claim, which is well formed, says is so, whatever its paper: gone through all runs."""
    word, book, rooms = claim[:3]
    if word in ("goes", "goes not"):
        return can_be_run(book, rooms) == (word == "goes")
    if word == "renamed":
        return any(named_otherwise(book, tuple(zip(hands_in(book), order))) == rooms
                   for order in itertools.permutations(hands_in(rooms)))
    if word in ("alike", "parted"):
        same_views = all(views_in(book, hand) == views_in(rooms, hand) for hand in hands_in(book + rooms))
        return same_views == (word == "alike")
    if word == "mends":
        return is_exact_book(told_ahead(book, rooms, claim[3]))
    runs = all_runs(book, rooms)
    strays = [run for run in runs if not any(begins(run, story) for story in book)]
    unasked = {least_alike(run) for run in runs if is_whole_behind(book, run)} - set(book)
    stuck = [run for run in runs if not next_of(book, rooms, run) and not is_whole_behind(book, run)]
    return {"sound": lambda: not strays, "stray": lambda: claim[3] in strays, "closed": lambda: not unasked,
            "unasked": lambda: claim[3] in unasked, "moves": lambda: not stuck,
            "stuck": lambda: claim[3] in stuck}[word]()


@functools.lru_cache(maxsize=None)
def can_be_run(story, rooms):
    """Whether a row alike to the story keeps to the rooms: gone through the standings of the story alone."""
    return any(len(run) == len(story) for run in walked((story,), rooms, 10 ** 6).values())


OTHER_THINGS = [None, True, False, 0, 1, 2, -1, 40, 41, 10 ** 30, "", "a", "b", "c", "-", "w", "send", "take", "1",
                (), [], {}, (None,), ((),), (((),),), [()], {"a": 1}, {(): ()}, ("a",), (0,), (1, 0),
                ("send", "a", "b", "w"), "goes", "sound", "stray", "moves", "stuck", "closed", "unasked", "alike",
                "parted", "renamed", "mends"]


def turned(chance, thing):
    """The thing with one thing in it, at some depth, turned."""
    if type(thing) is tuple and thing and chance.random() < 0.75:
        at = chance.randrange(len(thing))
        return thing[:at] + (turned(chance, thing[at]),) + thing[at + 1:]
    if type(thing) is tuple and chance.random() < 0.8:
        return turned_tuple(chance, thing)
    if type(thing) is int and chance.random() < 0.7:
        return chance.choice([thing + 1, thing - 1, thing == 1, str(thing), None, (thing,), [thing], -thing - 1])
    return chance.choice(OTHER_THINGS)


def turned_tuple(chance, thing):
    """The tuple as a list, a dict, or with a part more, fewer, twice or at another place."""
    at = chance.randrange(len(thing) + 1)
    other = chance.randrange(len(thing) + 1)
    parts = list(thing)
    way = chance.randrange(7)
    if way == 0:
        return parts
    if way == 1:
        return dict(enumerate(parts))
    if way == 2:
        return tuple(parts[:at] + [chance.choice(OTHER_THINGS)] + parts[at:])
    if way == 3:
        return tuple(parts[:at] + parts[at + 1:])
    if way == 4:
        return tuple(parts[:at] + parts[other:other + 1] + parts[at:])
    if way == 5:
        return tuple(parts[::-1])
    moved = parts[other:other + 1]
    rest = parts[:other] + parts[other + 1:]
    return tuple(rest[:at] + moved + rest[at:])


def chance_thing(chance, deep):
    """A thing of any kind the document tells of, at most so deep."""
    kind = chance.choice(["tuple", "list", "dict", "other", "other"]) if deep else "other"
    if kind == "other":
        return chance.choice(OTHER_THINGS)
    parts = [chance_thing(chance, deep - 1) for turn in range(chance.randint(0, 3))]
    if kind == "tuple":
        return tuple(parts)
    return parts if kind == "list" else dict(zip(["a", 0, None], parts))


def chance_things(seed, many):
    """So many things of any kind, always the same ones for a seed."""
    chance = random.Random(seed)
    return [chance_thing(chance, chance.randint(0, 4)) for turn in range(many)]
