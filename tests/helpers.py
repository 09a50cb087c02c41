"""What several tests share: short ways to write deeds, things of any kind, rows made by chance.

Nothing here uses the program, so that it can be held against it.
"""

import copy
import functools
import itertools
import random
import re


def sent(text):
    """The deed of the text "a b w": a sends b the word w."""
    return ("send",) + tuple(text.split())


def taken(text):
    """The deed of the text "a b w": b takes a's word w."""
    return ("take",) + tuple(text.split())


class Odd:
    """Equal to everything, so that only a look at its kind tells that it is no text."""

    def __eq__(self, other):
        return True

    __hash__ = object.__hash__


def any_things():
    """Things of many kinds, none of which is a whole number, a name, a deed, a row, a plot or rooms.

    The texts among them are no names, the tuples no rows.
    """
    deep = "a"
    for turn in range(20):
        deep = (deep,) if turn % 2 else [deep]
    return [
        None, True, False, "", "A", "-", " ", "a b", "a!b:w", "1", "\n", "\u00e9", "send!",
        b"", b"a", b"send", [], ["a"], {}, {"a": 1}, {"send": "a"}, set(), {"a"}, frozenset(),
        ("a",), ("send",), (None,), ((),), ([],), ({},), (True,), (1,), (("send", "a", "b"),),
        [("send", "a", "b", "w")], {("send", "a", "b", "w"): 1}, deep, (deep,), object(), Odd(), (Odd(),),
        int, len, range(3), bytearray(b"a"), iter([]),
    ]


def kept(test, things, ask):
    """Ask, and see that none of the things handed in was changed."""
    before = copy.deepcopy(things)
    told = ask(*things)
    test.assertEqual(things, before)
    return told


def chance_row(chance, most, hands, words, finished, taking):
    """A row that can go, of at most so many deeds; a story where it must be finished.

    The less it is for taking, of 1, the more letters come to be under way.
    """
    lines = {}
    row = []
    while len(row) < most:
        waiting = sorted(pair for pair in lines if lines[pair])
        under = sum(len(lines[pair]) for pair in waiting)
        must_take = finished and most - len(row) < under + 2
        if must_take and not waiting:
            break
        if waiting and (must_take or chance.random() < taking):
            giver, taker = chance.choice(waiting)
            row.append(("take", giver, taker, lines[giver, taker].pop(0)))
        else:
            giver, taker = chance.sample(sorted(hands), 2)
            word = chance.choice(words)
            lines.setdefault((giver, taker), []).append(word)
            row.append(("send", giver, taker, word))
    return tuple(row)


def chance_rows(seed, many, most, hands="abc", words="xy", finished=False, taking=0.45):
    """So many rows that can go, always the same ones for a seed."""
    chance = random.Random(seed)
    return [chance_row(chance, chance.randint(0, most), hands, words, finished, taking) for turn in range(many)]


def lines_of(row):
    """By (X, Y) the list of words under way behind the row, or None where it can't go."""
    lines = {}
    for kind, giver, taker, word in row:
        words = lines.setdefault((giver, taker), [])
        if kind == "send":
            words.append(word)
        elif words and words[0] == word:
            del words[0]
        else:
            return None
    return {pair: words for pair, words in lines.items() if words}


def seen_by(row, hand):
    """The hand's own deeds of the row."""
    return tuple(deed for deed in row if (deed[1] if deed[0] == "send" else deed[2]) == hand)


def all_seen(row):
    """By hand the own deeds of all hands that have any."""
    hands = {name for deed in row for name in deed[1:3]}
    return {hand: seen_by(row, hand) for hand in hands if seen_by(row, hand)}


def next_deeds(begun, row):
    """The deeds of the row that can be done next behind the begun one, whose views are beginnings of the row's."""
    found = []
    for hand, seen in all_seen(row).items():
        many = len(seen_by(begun, hand))
        if many < len(seen) and lines_of(begun + (seen[many],)) is not None:
            found.append(seen[many])
    return sorted(found)


def alike_rows(row, begun=()):
    """All rows alike to the row that begin with the begun one, rising, gone through one by one."""
    if len(begun) == len(row):
        return [begun]
    return [one for deed in next_deeds(begun, row) for one in alike_rows(row, begun + (deed,))]


def shuffled(chance, row):
    """Some row alike to the row."""
    begun = ()
    while len(begun) < len(row):
        begun += (chance.choice(next_deeds(begun, row)),)
    return begun


def exchanged(row, place):
    """The row with the deeds at the place and the next one exchanged."""
    return row[:place] + (row[place + 1], row[place]) + row[place + 2:]


def may_change(row, place):
    """Whether these neighbours are deeds of unlike hands and the row can go with them exchanged."""
    first, second = row[place], row[place + 1]
    unlike = all_seen((first,)).keys() != all_seen((second,)).keys()
    return unlike and lines_of(exchanged(row, place)) is not None


def row_of(words):
    """The row in which a sends b these words, one a letter."""
    return tuple(sent("a b " + word) for word in words)


def either(texts):
    """The plot that has for each text the row of its letters as words."""
    return ("or", tuple(("row", row_of(text)) for text in texts))


def names(many):
    """So many texts of two letters each."""
    return ["".join(pair) for pair in itertools.product("abcdefghijklmnopqrstuvwxyz", repeat=2)][:many]


def all_plot_rows(plot):
    """The plot's rows as the document tells them, all made first."""
    if plot[0] == "row":
        found = [plot[1]]
    elif plot[0] == "or":
        found = [row for part in plot[1] for row in all_plot_rows(part)]
    elif plot[0] == "then":
        found = [sum(rows, ()) for rows in itertools.product(*[all_plot_rows(part) for part in plot[1]])]
    else:
        once = all_plot_rows(plot[1])
        found = [sum(rows, ()) for times in range(plot[2], plot[3] + 1)
                 for rows in itertools.product(once, repeat=times)]
    return list(dict.fromkeys(found))


def has_too_many(plot):
    """Whether the plot or a part of it has more than 200 rows or a row of more than 24 deeds."""
    rows = all_plot_rows(plot)
    parts = {"row": (), "again": plot[1:2]}.get(plot[0], plot[1])
    return len(rows) > 200 or max(map(len, rows)) > 24 or any(has_too_many(part) for part in parts)


def chance_plot(chance, deep):
    """Some plot, at most so deep."""
    word = chance.choice(["row", "then", "or", "again"]) if deep else "row"
    if word == "row":
        return ("row", row_of(chance.choices("ab", k=chance.randint(0, 2))))
    if word == "again":
        least = chance.randint(0, 2)
        return ("again", chance_plot(chance, deep - 1), least, chance.randint(least, 3))
    return (word, tuple(chance_plot(chance, deep - 1) for turn in range(chance.randint(1, 3))))


def least_alike(row):
    """The least of all rows alike to the row: of all deeds that can be done next always the least."""
    begun = ()
    while len(begun) < len(row):
        begun += (next_deeds(begun, row)[0],)
    return begun


def row_from(text):
    """The row of a text that is right: a part is X!Y:W, Y?X:W or X>Y:W, - is for none."""
    row = ()
    for hand, sign, other, word in re.findall("([a-z]+)([!?>])([a-z]+):([a-z]+)", text):
        row += {"!": (("send", hand, other, word),), "?": (("take", other, hand, word),),
                ">": (("send", hand, other, word), ("take", hand, other, word))}[sign]
    return row


def told_book(*texts):
    """The book of the stories with these texts."""
    return book_from(map(row_from, texts))


def book_from(rows):
    """The book of the stories: the least rows alike to them, rising, each once."""
    return tuple(sorted({least_alike(row) for row in rows}))


def hands_in(book):
    """The hands of the book's stories, rising."""
    return tuple(sorted({hand for story in book for deed in story for hand in deed[1:3]}))


def views_in(book, hand):
    """The hand's views of the book's stories, rising, each once."""
    return tuple(sorted({seen_by(story, hand) for story in book}))


def chance_books(seed, many, stories, most, hands="abc", words="xy", taking=0.45):
    """So many books of at most so many stories of at most so many deeds, always the same ones for a seed."""
    chance = random.Random(seed)
    books = []
    for turn in range(many):
        told = chance.randint(1, stories)
        rows = [chance_row(chance, chance.randint(0, most), hands, words, True, taking) for turn in range(told)]
        books.append(book_from(rows))
    return books


def letters(giver, taker, words):
    """The story in which one hand sends the other these words, each taken at once."""
    return tuple((kind, giver, taker, word) for word in words for kind in ("send", "take"))


def most_under_way(row):
    """The most letters of one X and Y under way behind a deed of the row."""
    many = [len(words) for at in range(len(row)) for words in lines_of(row[:at + 1]).values()]
    return max(many, default=0)


def keeps_to(row, rooms):
    """Whether the row keeps to the rooms, None for as many as may be."""
    return rooms is None or most_under_way(row) <= rooms


def begins(row, other):
    """Whether each hand's view of the row is a beginning of its view of the other."""
    its = all_seen(other)
    return all(its.get(hand, ())[:len(seen)] == seen for hand, seen in all_seen(row).items())


def standing_behind(book, run):
    """The views of the run, one for each hand of the book, in order."""
    return tuple(seen_by(run, hand) for hand in hands_in(book))


@functools.lru_cache(maxsize=None)
def all_runs(book, rooms):
    """All runs of the book within the rooms, gone through one by one, those of fewer deeds ahead."""
    deeds = sorted({deed for story in book for deed in story})
    views = {hand: views_in(book, hand) for hand in hands_in(book)}
    runs = [()]
    for run in runs:
        for row in [run + (deed,) for deed in deeds]:
            lines = lines_of(row)
            if lines is None or rooms is not None and max(map(len, lines.values()), default=0) > rooms:
                continue
            seen = all_seen(row)
            if all(any(view[:len(seen[hand])] == seen[hand] for view in views[hand]) for hand in seen):
                runs.append(row)
    return tuple(runs)


@functools.lru_cache(maxsize=None)
def all_standings(book, rooms):
    """All standings reached within the rooms, rising."""
    return tuple(sorted({standing_behind(book, run) for run in all_runs(book, rooms)}))


def deeds_on(book, rooms, standing):
    """The deeds by which the standing becomes a standing again, of all deeds of the book, rising."""
    hands = hands_in(book)
    found = []
    for deed in sorted({deed for story in book for deed in story}):
        own = deed[1] if deed[0] == "send" else deed[2]
        behind = tuple(seen + (deed,) if hand == own else seen for hand, seen in zip(hands, standing))
        if behind in all_standings(book, rooms):
            found.append(deed)
    return tuple(found)


def is_whole_behind(book, run):
    """Whether the standing behind the run is whole."""
    seen = zip(hands_in(book), standing_behind(book, run))
    return lines_of(run) == {} and all(view in views_in(book, hand) for hand, view in seen)


@functools.lru_cache(maxsize=None)
def whole_runs(book, rooms):
    """By the least row of each whole standing reached within the rooms one run to it."""
    return {least_alike(run): run for run in all_runs(book, rooms) if is_whole_behind(book, run)}


@functools.lru_cache(maxsize=None)
def small_books():
    """Books of which all runs can be gone through one by one."""
    books = chance_books(100, 40, 3, 6) + chance_books(101, 20, 4, 4, "abc", "w") + chance_books(102, 20, 2, 8, "ab")
    books += chance_books(103, 20, 3, 4, "abcd", "w", 0.2) + chance_books(104, 40, 3, 8, "ab", "w", 0.2)
    chance = random.Random(105)
    parts = [letters(*pair, word) for pair in ("ab", "cd", "ba", "bc") for word in "xy"]
    for turn in range(50):
        rows = [sum(chance.sample(parts, chance.randint(0, 3)), ()) for turn in range(chance.randint(2, 4))]
        books.append(book_from(rows))
    pairs = [letters("a", "b", first) + letters("c", "d", second) for first in "xy" for second in "xy"]
    crossing = (sent("a b w"), sent("b a w")) * 2 + (taken("a b w"), taken("b a w")) * 2
    books += [book_from(rows) for rows in ([()], pairs[:1], pairs[1:3], pairs[1:], pairs, [crossing], [crossing, ()])]
    return tuple(dict.fromkeys(books + [sound_in_one_room(), closed_in_one_room()]))


def sound_in_one_room():
    """A book that is sound within rooms of 1 and strays within others.

    In one story b takes x, then y, in the other one it sends s first and takes x only when a has taken s. With
    one room a can't send y before x is taken.
    """
    asked = (sent("a b x"),) + letters("b", "a", "s") + letters("a", "c", "k") + letters("c", "b", "k")
    return book_from([letters("a", "b", "xy"), asked + (taken("a b x"),)])


def closed_in_one_room():
    """A book that is closed within rooms of 1 and has an unasked story within others.

    In each story one hand sends both its letters ahead; where both do, two rooms are needed.
    """
    first, second = letters("a", "b", "pp"), letters("b", "a", "qq")
    return book_from([first + second, second + first])


def standings_book(many):
    """A book of one pair of hands that reaches just so many standings, from 1 on.

    A story of k letters from the one to the other reaches (k + 1) * (k + 2) / 2 standings, and stories
    whose first words are unlike share the first standing alone.
    """
    stories = []
    left = many - 1
    for name in names(40):
        for long in range(16, 0, -1):
            more = (long + 1) * (long + 2) // 2 - 1
            # Of 1 and of 3 left no stories can be made.
            if more <= left and left - more not in (1, 3):
                stories.append(letters("a", "b", [name] + ["w"] * (long - 1)))
                left -= more
                break
    assert left == 0
    return book_from(stories or [()])


@functools.lru_cache(maxsize=None)
def endless_book():
    """A book that reaches millions of standings: two pairs of hands that have nothing to do with one another."""
    return book_from([letters("a", "b", [name] + ["w"] * 7) + letters("c", "d", [name] + ["w"] * 7)
                      for name in names(40)])


def wrong_rooms():
    """Things of any kind that are no rooms."""
    things = [thing for thing in any_things() if thing is not None]
    return things + [0, -1, -40, 41, 42, 100, 10 ** 9, -10 ** 5000, 10 ** 5000, True, False, "1", "", "-", b"1", [1], (),
                     (1,), {1: 1}, {1}]


def must_come_ahead(story, rooms):
    """All pairs of numbers of which the first must come ahead of the second, as the document lists them."""
    found = set()
    for first, second in itertools.combinations(range(len(story)), 2):
        hands = [story[at][1] if story[at][0] == "send" else story[at][2] for at in (first, second)]
        between = [story[at][1] if story[at][0] == "send" else story[at][2] for at in range(first + 1, second)]
        if hands[0] == hands[1] and hands[0] not in between:
            found.add((first, second))
    for pair in {deed[1:3] for deed in story}:
        sends = [at for at, deed in enumerate(story) if deed[:3] == ("send",) + pair]
        takes = [at for at, deed in enumerate(story) if deed[:3] == ("take",) + pair]
        for k in range(len(sends)):
            found.add((sends[k], takes[k]))
            if k + rooms < len(sends):
                found.add((takes[k], sends[k + rooms]))
    return found


def named_otherwise(book, names):
    """The book with its hands named as the pairs tell."""
    by_hand = dict(names)
    return book_from([tuple((kind, by_hand[giver], by_hand[taker], word) for kind, giver, taker, word in story)
                      for story in book])


def told_ahead(book, leader, hands):
    """The book in each story of which the leader sends each of the hands the story's word, which it takes at once."""
    return book_from([sum((letters(leader, hand, [word]) for hand in hands), ()) + story
                      for word, story in zip(names(40), book)])


def some_of(things):
    """All choices of the things, none and all of them too, those of fewer ahead."""
    return [some for many in range(len(things) + 1) for some in itertools.combinations(things, many)]


@functools.lru_cache(maxsize=None)
def walked(book, rooms=None, most=3000):
    """By each standing reached within the rooms a run of the fewest deeds to it; None where they are more than most.

    Unlike all_runs it goes through standings, not runs, so that it comes to an end for larger books.
    """
    views = {hand: views_in(book, hand) for hand in hands_in(book)}
    found = {tuple(() for hand in views): ()}
    waiting = list(found.items())
    for standing, run in waiting:
        for at, hand in enumerate(views):
            seen = standing[at]
            for deed in sorted({view[len(seen)] for view in views[hand] if view[:len(seen)] == seen != view}):
                behind = standing[:at] + (seen + (deed,),) + standing[at + 1:]
                if behind not in found and can_follow(run, deed, rooms):
                    found[behind] = run + (deed,)
                    waiting.append((behind, run + (deed,)))
                    if len(found) > most:
                        return None
    return found


def can_follow(run, deed, rooms):
    """Whether the deed can be done behind the run, within the rooms."""
    lines = lines_of(run + (deed,))
    return lines is not None and (rooms is None or max(map(len, lines.values()), default=0) <= rooms)


def is_exact_book(book):
    """Whether each standing reached is a beginning of a story, and each whole one a story; None of too many."""
    found = walked(book)
    if found is None:
        return None
    told = [standing_behind(book, story) for story in book]
    for standing, run in found.items():
        if not any(all(its[:len(seen)] == seen for seen, its in zip(standing, story)) for story in told):
            return False
        ended = all(seen in its for seen, its in zip(standing, zip(*told)))
        if ended and lines_of(run) == {} and standing not in told:
            return False
    return True
