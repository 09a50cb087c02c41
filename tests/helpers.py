"""What several tests share: short ways to write deeds, things of any kind, rows made by chance.

Nothing here uses the program, so that it can be held against it.
"""

import copy
import random


def sent(text):
    """The deed of the text "a b w": a sends b the word w."""
    return ("send",) + tuple(text.split())


def taken(text):
    """The deed of the text "a b w": b takes a's word w."""
    return ("take",) + tuple(text.split())


class Odd:
    """Equal to everything, so that only a look at its kind tells that it is no text."""

    def __eq__(self, other):
        return True

    __hash__ = object.__hash__


def any_things():
    """Things of many kinds, none of which is a whole number, a name, a deed, a row, a plot or rooms.

    The texts among them are no names, the tuples no rows.
    """
    deep = "a"
    for turn in range(20):
        deep = (deep,) if turn % 2 else [deep]
    return [
        None, True, False, "", "A", "-", " ", "a b", "a!b:w", "1", "\n", "\u00e9", "send!",
        b"", b"a", b"send", [], ["a"], {}, {"a": 1}, {"send": "a"}, set(), {"a"}, frozenset(),
        ("a",), ("send",), (None,), ((),), ([],), ({},), (True,), (1,), (("send", "a", "b"),),
        [("send", "a", "b", "w")], {("send", "a", "b", "w"): 1}, deep, (deep,), object(), Odd(), (Odd(),),
        int, len, range(3), bytearray(b"a"), iter([]),
    ]


def kept(test, things, ask):
    """Ask, and see that none of the things handed in was changed."""
    before = copy.deepcopy(things)
    told = ask(*things)
    test.assertEqual(things, before)
    return told


def chance_row(chance, most, hands, words, finished, taking):
    """A row that can go, of at most so many deeds; a story where it must be finished.

    The less it is for taking, of 1, the more letters come to be under way.
    """
    lines = {}
    row = []
    while len(row) < most:
        waiting = sorted(pair for pair in lines if lines[pair])
        under = sum(len(lines[pair]) for pair in waiting)
        must_take = finished and most - len(row) < under + 2
        if must_take and not waiting:
            break
        if waiting and (must_take or chance.random() < taking):
            giver, taker = chance.choice(waiting)
            row.append(("take", giver, taker, lines[giver, taker].pop(0)))
        else:
            giver, taker = chance.sample(sorted(hands), 2)
            word = chance.choice(words)
            lines.setdefault((giver, taker), []).append(word)
            row.append(("send", giver, taker, word))
    return tuple(row)


def chance_rows(seed, many, most, hands="abc", words="xy", finished=False, taking=0.45):
    """So many rows that can go, always the same ones for a seed."""
    chance = random.Random(seed)
    return [chance_row(chance, chance.randint(0, most), hands, words, finished, taking) for turn in range(many)]


def lines_of(row):
    """By (X, Y) the list of words under way behind the row, or None where it can't go."""
    lines = {}
    for kind, giver, taker, word in row:
        words = lines.setdefault((giver, taker), [])
        if kind == "send":
            words.append(word)
        elif words and words[0] == word:
            del words[0]
        else:
            return None
    return {pair: words for pair, words in lines.items() if words}


def seen_by(row, hand):
    """The hand's own deeds of the row."""
    return tuple(deed for deed in row if (deed[1] if deed[0] == "send" else deed[2]) == hand)


def all_seen(row):
    """By hand the own deeds of all hands that have any."""
    hands = {name for deed in row for name in deed[1:3]}
    return {hand: seen_by(row, hand) for hand in hands if seen_by(row, hand)}


def next_deeds(begun, row):
    """The deeds of the row that can be done next behind the begun one, whose views are beginnings of the row's."""
    found = []
    for hand, seen in all_seen(row).items():
        many = len(seen_by(begun, hand))
        if many < len(seen) and lines_of(begun + (seen[many],)) is not None:
            found.append(seen[many])
    return sorted(found)


def alike_rows(row, begun=()):
    """All rows alike to the row that begin with the begun one, rising, gone through one by one."""
    if len(begun) == len(row):
        return [begun]
    return [one for deed in next_deeds(begun, row) for one in alike_rows(row, begun + (deed,))]


def shuffled(chance, row):
    """Some row alike to the row."""
    begun = ()
    while len(begun) < len(row):
        begun += (chance.choice(next_deeds(begun, row)),)
    return begun


def exchanged(row, place):
    """The row with the deeds at the place and the next one exchanged."""
    return row[:place] + (row[place + 1], row[place]) + row[place + 2:]


def may_change(row, place):
    """Whether these neighbours are deeds of unlike hands and the row can go with them exchanged."""
    first, second = row[place], row[place + 1]
    unlike = all_seen((first,)).keys() != all_seen((second,)).keys()
    return unlike and lines_of(exchanged(row, place)) is not None
