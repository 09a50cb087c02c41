"""What several tests share: short ways to write deeds, things of any kind, rows made by chance.

Nothing here uses the program, so that it can be held against it.
"""

import copy
import random


def sent(text):
    """The deed of the text "a b w": a sends b the word w."""
    return ("send",) + tuple(text.split())


def taken(text):
    """The deed of the text "a b w": b takes a's word w."""
    return ("take",) + tuple(text.split())


class Odd:
    """Equal to everything, so that only a look at its kind tells that it is no text."""

    def __eq__(self, other):
        return True

    __hash__ = object.__hash__


def any_things():
    """Things of many kinds, none of which is a whole number, a name, a deed, a row, a plot or rooms.

    The texts among them are no names, the tuples no rows.
    """
    deep = "a"
    for turn in range(20):
        deep = (deep,) if turn % 2 else [deep]
    return [
        None, True, False, "", "A", "-", " ", "a b", "a!b:w", "1", "\n", "\u00e9", "send!",
        b"", b"a", b"send", [], ["a"], {}, {"a": 1}, {"send": "a"}, set(), {"a"}, frozenset(),
        ("a",), ("send",), (None,), ((),), ([],), ({},), (True,), (1,), (("send", "a", "b"),),
        [("send", "a", "b", "w")], {("send", "a", "b", "w"): 1}, deep, (deep,), object(), Odd(), (Odd(),),
        int, len, range(3), bytearray(b"a"), iter([]),
    ]


def kept(test, things, ask):
    """Ask, and see that none of the things handed in was changed."""
    before = copy.deepcopy(things)
    told = ask(*things)
    test.assertEqual(things, before)
    return told


def chance_row(chance, most, hands="abc", words="xy", finished=False):
    """A row that can go, of at most so many deeds; a story where it must be finished."""
    lines = {}
    row = []
    while len(row) < most:
        waiting = sorted(pair for pair in lines if lines[pair])
        under = sum(len(lines[pair]) for pair in waiting)
        must_take = finished and most - len(row) < under + 2
        if must_take and not waiting:
            break
        if waiting and (must_take or chance.random() < 0.45):
            giver, taker = chance.choice(waiting)
            row.append(("take", giver, taker, lines[giver, taker].pop(0)))
        else:
            giver, taker = chance.sample(sorted(hands), 2)
            word = chance.choice(words)
            lines.setdefault((giver, taker), []).append(word)
            row.append(("send", giver, taker, word))
    return tuple(row)


def chance_rows(seed, many, most, hands="abc", words="xy", finished=False):
    """So many rows that can go, always the same ones for a seed."""
    chance = random.Random(seed)
    return [chance_row(chance, chance.randint(0, most), hands, words, finished) for turn in range(many)]


def lines_of(row):
    """By (X, Y) the list of words under way behind the row, or None where it can't go."""
    lines = {}
    for kind, giver, taker, word in row:
        words = lines.setdefault((giver, taker), [])
        if kind == "send":
            words.append(word)
        elif words and words[0] == word:
            del words[0]
        else:
            return None
    return {pair: words for pair, words in lines.items() if words}
