import itertools
import random
import re
import unittest

from talehands.errors import NoPlot, NoText, TooMany
from talehands.plots import is_plot, plot_rows
from talehands.plottexts import read_plot, show_plot
from talehands.rowtexts import read_row, show_row
from tests.helpers import (all_plot_rows, any_things, chance_plot, either, has_too_many, kept, names, sent, taken)

S, T = sent("a b w"), taken("a b w")
A, B, C = [("row", (sent("a b " + word),)) for word in "abc"]
NONE = ("row", ())


def is_flat(text):
    """Whether it is a plot's text without brackets, # for those that were."""
    return all(is_part(part) for alternative in text.split(" | ") for part in alternative.split(" "))


def is_part(part):
    found = re.fullmatch("([a-z]{1,8})[!?>]([a-z]{1,8}):[a-z]{1,8}", part)
    return part in ("-", "#") or found is not None and found[1] != found[2]


def is_plot_text(text):
    """Whether it is a plot's text, seen by taking the innermost brackets for parts, one by one."""
    if "#" in text:
        return False
    bracket = re.compile(r"\(([^()]*)\)(?:\*([0-4])-([0-4]))?")
    while True:
        found = bracket.search(text)
        if not found:
            return is_flat(text)
        if not is_flat(found[1]) or found[2] and found[2] > found[3]:
            return False
        if text[found.end():found.end() + 1] not in ("", " ", ")"):
            return False
        text = text[:found.start()] + "#" + text[found.end():]


def parted(text, mark):
    """The text parted at each mark that is in no bracket."""
    parts = [""]
    deep = 0
    at = 0
    while at < len(text):
        if deep == 0 and text.startswith(mark, at):
            parts.append("")
            at += len(mark)
            continue
        deep += {"(": 1, ")": -1}.get(text[at], 0)
        parts[-1] += text[at]
        at += 1
    return parts


def told_rows(text):
    """The rows that a plot's text tells, in order, each once."""
    rows = []
    for alternative in parted(text, " | "):
        each = [part_rows(part) for part in parted(alternative, " ")]
        rows += [sum(parts, ()) for parts in itertools.product(*each)]
    return list(dict.fromkeys(rows))


def part_rows(part):
    if part[0] != "(":
        return [read_row(part)]
    inner, found, times = part[1:].rpartition(")")
    rows = told_rows(inner)
    if not times:
        return rows
    return [sum(parts, ()) for many in range(int(times[1]), int(times[3]) + 1)
            for parts in itertools.product(rows, repeat=many)]


def chance_text(chance, deep):
    """Some plot's text with brackets at most so deep."""
    alternatives = []
    for turn in range(chance.choice([1, 1, 2, 3])):
        parts = [chance_part(chance, deep) for turn in range(chance.choice([1, 1, 2, 3]))]
        alternatives.append(" ".join(parts))
    return " | ".join(alternatives)


def chance_part(chance, deep):
    if deep == 0 or chance.random() < 0.6:
        return chance.choice(["a!b:x", "b?a:x", "a>b:y", "c>a:x", "-"])
    least = chance.randint(0, 2)
    times = chance.choice(["", f"*{least}-{chance.randint(least, 2)}"])
    return "(" + chance_text(chance, deep - 1) + ")" + times


def rows_or_refused(plot):
    try:
        return plot_rows(plot)
    except TooMany:
        return "too many"


class Read(unittest.TestCase):

    def test_deeds(self):
        self.told("a!b:w", "a!b:w")
        self.told("b?a:w", "b?a:w")
        self.told("a>b:w", "a!b:w b?a:w")
        self.told("a!b:w b?a:w", "a!b:w b?a:w")
        self.told("b?a:w a!b:w c>d:v", "b?a:w a!b:w c>d:v")
        self.told("abcdefgh>bcdefghi:cdefghij", "abcdefgh>bcdefghi:cdefghij")

    def test_none(self):
        self.told("-", "-")
        self.told("- -", "-")
        self.told("- a!b:w", "a!b:w")
        self.told("a!b:w -", "a!b:w")
        self.told("- a!b:w - - b?a:w -", "a>b:w")
        self.told("- | a!b:w", "-", "a!b:w")
        self.told("a!b:w | -", "a!b:w", "-")
        self.told("(-)", "-")
        self.told("(-)*0-4 (- | -)", "-")

    def test_alternatives(self):
        self.told("a!b:z | a!b:a", "a!b:z", "a!b:a")
        self.told("a!b:z | a!b:a a!b:c | a!b:b", "a!b:z", "a!b:a a!b:c", "a!b:b")
        self.told("a!b:z | a!b:a | a!b:z | a!b:a", "a!b:z", "a!b:a")

    def test_brackets(self):
        self.told("(a!b:w)", "a!b:w")
        self.told("(a!b:w b?a:w)", "a>b:w")
        self.told("(a!b:z | a!b:a) a!b:x", "a!b:z a!b:x", "a!b:a a!b:x")
        self.told("a!b:x (a!b:z | a!b:a)", "a!b:x a!b:z", "a!b:x a!b:a")
        self.told("a!b:x | (a!b:z | a!b:a) a!b:y", "a!b:x", "a!b:z a!b:y", "a!b:a a!b:y")
        self.told("(a!b:b | a!b:a) (a!b:d | a!b:c)", "a!b:b a!b:d", "a!b:b a!b:c", "a!b:a a!b:d", "a!b:a a!b:c")

    def test_brackets_in_brackets(self):
        self.told("((a!b:w))", "a!b:w")
        self.told("(((a!b:w) | (a!b:v)) a!b:x)", "a!b:w a!b:x", "a!b:v a!b:x")
        self.told("((a!b:w | (a!b:v | -) a!b:y) a!b:x | -)", "a!b:w a!b:x", "a!b:v a!b:y a!b:x", "a!b:y a!b:x", "-")

    def test_again(self):
        self.told("(a!b:w)*0-0", "-")
        self.told("(a!b:w)*0-1", "-", "a!b:w")
        self.told("(a!b:w)*1-1", "a!b:w")
        self.told("(a!b:w)*2-4", "a!b:w a!b:w", "a!b:w a!b:w a!b:w", "a!b:w a!b:w a!b:w a!b:w")
        self.told("(a!b:w)*4-4", "a!b:w a!b:w a!b:w a!b:w")
        self.told("(a!b:b | a!b:a)*1-2", "a!b:b", "a!b:a", "a!b:b a!b:b", "a!b:b a!b:a", "a!b:a a!b:b", "a!b:a a!b:a")
        self.told("((a!b:w)*0-1 a!b:x)*1-1 | -", "a!b:x", "a!b:w a!b:x", "-")
        self.told("((a!b:w)*1-2)*2-2", "a!b:w a!b:w", "a!b:w a!b:w a!b:w", "a!b:w a!b:w a!b:w a!b:w")
        self.told("a!b:x (a!b:w)*0-1 a!b:y", "a!b:x a!b:y", "a!b:x a!b:w a!b:y")

    def test_rows_of_texts_made_by_chance(self):
        chance = random.Random(50)
        told = 0
        for turn in range(600):
            text = chance_text(chance, 3)
            self.assertTrue(is_plot_text(text), text)
            plot = read_plot(text)
            self.assertIs(is_plot(plot), True)
            if len(text) < 60 and not has_too_many(plot):
                self.assertEqual(plot_rows(plot), told_rows(text), text)
                told += 1
        self.assertGreater(told, 200)

    def test_forty_deep(self):
        self.told("(" * 40 + "a!b:w" + ")" * 40, "a!b:w")
        self.told("(" * 40 + "a!b:w" + ")*1-1" * 40, "a!b:w")
        self.told("(" * 40 + "a!b:w" + ")*0-1" * 40, "-", "a!b:w")
        self.told("(- | - " * 40 + "a!b:w" + ")*1-1" * 40, "-", "a!b:w")
        self.told("(- " * 40 + "a!b:w" + " - | -)" * 40, "a!b:w", "-")

    def test_long_texts(self):
        self.told(" ".join(["-"] * 2000), "-")
        self.told(" | ".join(["a!b:w"] * 500), "a!b:w")
        self.told(" ".join(["(-)*1-1"] * 500), "-")
        self.told(" ".join(["a!b:w"] * 24), " ".join(["a!b:w"] * 24))

    def test_however_many_rows_are_told(self):
        for text in (" ".join(["a!b:w"] * 25), " ".join(["a!b:w"] * 600), "(a!b:w)*4-4 " * 7 + "-",
                     " | ".join(f"a!b:{name}" for name in names(201)), " ".join(["(a!b:x | a!b:y)"] * 8),
                     "(" + " | ".join(f"a!b:{name}" for name in names(201)) + ")*0-0",
                     "(" + " ".join(["a!b:w"] * 25) + ")*0-0", "((" + " ".join(["a!b:w"] * 25) + " | -))*0-0 -",
                     "(" * 30 + "a!b:w | b!a:w" + ")*4-4" * 30):
            plot = read_plot(text)
            self.assertIs(is_plot(plot), True)
            with self.assertRaises(TooMany):
                plot_rows(plot)

    def told(self, text, *rows):
        self.assertTrue(is_plot_text(text), text)
        plot = read_plot(text)
        self.assertIs(is_plot(plot), True)
        self.assertEqual(plot_rows(plot), [read_row(row) for row in rows])


class Refused(unittest.TestCase):

    def test_blanks(self):
        for text in ("", " ", "  ", " a!b:w", "a!b:w ", "a!b:w  b?a:w", " -", "- ", "-  -", "a!b:w\tb?a:w", "a!b:w\n",
                     "\na!b:w", "a!b:w\nb?a:w", "-\n", "(-)\n", "\n", "a!b:w  | -", "a!b:w |  -", "  | -"):
            self.refused(text)

    def test_alternatives_without_a_part_beside(self):
        for text in ("|", " | ", "a!b:w |", "a!b:w | ", "| a!b:w", " | a!b:w", "a!b:w | | b?a:w", "a!b:w |  | b?a:w",
                     "a!b:w || b?a:w", "a!b:w|b?a:w", "a!b:w |b?a:w", "a!b:w| b?a:w", "(a!b:w | )", "( | a!b:w)",
                     "(a!b:w |)", "(| a!b:w)", "(|)", "( | )", "(a!b:w)| -", "(a!b:w) |-", "- |", "-|-"):
            self.refused(text)

    def test_brackets(self):
        for text in ("(", ")", "()", ")(", "( )", "(a!b:w", "a!b:w)", "((a!b:w)", "(a!b:w))", "(a!b:w) )", "( (a!b:w)",
                     "( a!b:w)", "(a!b:w )", "( a!b:w )", "(a!b:w b?a:w ) -", "(a!b:w)(b?a:w)", "(a!b:w)b?a:w",
                     "a!b:w(b?a:w)", "-(-)", "(-)-", "(())", "((-) )", "a!(b:w)", "(a)!b:w", "a!b:(w)", "[a!b:w]",
                     "{a!b:w}", "a!b:w ()", "() a!b:w", "(" * 40 + "-" + ")" * 39, "(" * 39 + "-" + ")" * 40):
            self.refused(text)

    def test_times(self):
        for text in ("a!b:w*0-1", "-*0-1", "*0-1", "* 0-1", "(-) *0-1", "(-)* 0-1", "(-)*0 -1", "(-)*0- 1", "(-)*",
                     "(-)*1", "(-)*-", "(-)*-1", "(-)*1-", "(-)**0-1", "(-)*0-1*0-1", "(-)*0-1-1", "(-)*0--1", "(-)*01",
                     "(-)*10-1", "(-)*1-10", "(-)*00-1", "(-)*0-01", "(-)*1-0", "(-)*4-3", "(-)*2-1", "(-)*0-5",
                     "(-)*5-5", "(-)*4-5", "(-)*5-9", "(-)*+0-1", "(-)*a-b", "(-)*0:1", "(-)*0,1", "(-)*0_1", "(-)+0-1",
                     "(-)0-1", "(-)*0-1a", "(-)*0-1(-)", "(-)*0-1-", "(*0-1)", "(-*0-1)", "(-)*\u0660-1", "(-)*0-\u00b2",
                     "(-)*(0-1)", "(-)*0-1)", "(-)*0-", "(-)*0", "(-)* ", "(-)*0-1 *0-1", "(-)*0-1 | *0-1"):
            self.refused(text)
        for least in range(10):
            for most in range(10):
                text = f"(a!b:w)*{least}-{most}"
                if least <= most <= 4:
                    self.assertEqual(len(plot_rows(read_plot(text))), most - least + 1)
                else:
                    self.refused(text)

    def test_names_that_are_none(self):
        for part in ("a", "a!", "!", ":", "a!b", "a!b:", "!b:w", "a!:w", "a?b", "a>b", "a!a:w", "a?a:w", "a>a:w",
                     "A!b:w", "a!B:w", "a!b:W", "a1!b:w", "a!b:1", "abcdefghi!b:w", "a!abcdefghi:w", "a!b:abcdefghi",
                     "a!b:w!", "a!b>c:w", "a->b:w", "--", "a!b:-", "-a!b:w", "a!b:w-", "\u00e9!b:w", "a!b:\u00e9", "#",
                     "a!b:w#", "a!b:w,", "a!b;w", "row", "then", "send", "_", "."):
            for text in (part, "a!b:w " + part, part + " a!b:w", "(" + part + ")", "a!b:w | " + part, part + " | -"):
                self.refused(text)

    def test_texts_changed_by_chance(self):
        chance = random.Random(51)
        signs = "ab!?>:-|()*012 "
        refused = 0
        for turn in range(4000):
            text = chance_text(chance, 2)
            for change in range(chance.randint(1, 2)):
                at = chance.randint(0, len(text))
                text = text[:at] + chance.choice(["", chance.choice(signs)]) + text[at + chance.randint(0, 1):]
            if is_plot_text(text):
                self.assertIs(is_plot(read_plot(text)), True)
            else:
                self.refused(text)
                refused += 1
        self.assertGreater(refused, 1000)

    def test_what_is_no_text(self):
        for thing in any_things() + [0, 1, (), A, ("-",), ["-"], ["a!b:w"], b"-", b"a!b:w", {"-": 1}]:
            if not isinstance(thing, str):
                self.refused(thing)

    def refused(self, text):
        with self.assertRaises(NoText, msg=ascii(text)):
            read_plot(text)


class Shown(unittest.TestCase):

    def test_each_form(self):
        for plot in (NONE, A, ("row", (S, T)), ("row", (T, S)), ("row", (S, S, T, T)), ("then", (A,)), ("then", (A, B, A)),
                     ("then", (NONE, A, NONE)), ("then", (("row", (S,)), ("row", (T,)))), ("or", (A,)), ("or", (A, B, A)),
                     ("or", (NONE, A)), ("or", (A, NONE)), ("again", A, 0, 0), ("again", NONE, 0, 4), ("again", A, 2, 3),
                     ("again", ("row", (S, T)), 1, 1)):
            self.read_again(plot)

    def test_each_in_each(self):
        for first in self.around(A, B):
            for second in self.around(first, C):
                self.read_again(second)
                for third in self.around(B, second):
                    self.read_again(third)
                    self.read_again(("or", (third, ("then", (second, first)))))

    def test_made_by_chance(self):
        chance = random.Random(52)
        seen = {True: 0, False: 0}
        for turn in range(3000):
            plot = chance_plot(chance, 3)
            read = self.read_again(plot)
            refused = has_too_many(plot)
            seen[refused] += 1
            if not refused:
                self.assertEqual(plot_rows(read), all_plot_rows(plot))
            else:
                with self.assertRaises(TooMany):
                    plot_rows(read)
        self.assertGreater(min(seen.values()), 5)

    def test_wide_and_deep(self):
        for plot in (("or", (A, B) * 100), ("then", (A,) * 24 + (NONE,) * 175), ("or", either(names(200))[1]),
                     ("then", (("again", A, 0, 0),) * 100), ("then", (("or", (A, B)),) * 7 + (NONE,) * 180)):
            self.read_again(plot)
        for turn in range(3):
            plot = ("or", (A, B))
            for deep in range(7):
                around = self.around(plot, NONE)
                plot = around[(deep + turn) % len(around)]
                self.read_again(plot)

    def test_refused_by_a_part_just_where_the_read_one_is(self):
        for part in (either(names(201)), ("row", (S,) * 25), ("again", either("abcd"), 4, 4), ("then", (A,) * 25),
                     ("then", (either(names(20)),) * 2), ("or", (either(names(200)), A))):
            for plot in (part, ("again", part, 0, 0), ("then", (A, ("again", part, 0, 0))), ("or", (A, part)),
                         ("or", (A, ("again", ("again", ("then", (A, part)), 0, 0), 0, 0))), ("then", (part,))):
                self.assertEqual(rows_or_refused(plot), "too many")
                self.read_again(plot)
        for part in (either(names(200)), ("row", (S,) * 24), ("then", (A,) * 24), ("then", (either(names(14)),) * 2)):
            for plot in (part, ("again", part, 0, 0), ("again", part, 1, 1), ("or", (part,)), ("then", (part, NONE))):
                self.assertNotEqual(rows_or_refused(plot), "too many")
                self.read_again(plot)

    def test_a_text_as_rows_are_shown(self):
        self.assertEqual(show_plot(NONE), "-")
        for row in ((S,), (T,), (S, T), (T, S), (S, S, T, T)):
            self.assertEqual(read_row(show_plot(("row", row))), row)
            self.assertEqual(plot_rows(read_plot(show_row(row))), [row])

    def test_what_is_no_plot(self):
        for thing in any_things() + [0, 1, "a", ("row", [S]), ("then", ()), ("again", A, 0, 5), ["row", ()]]:
            with self.assertRaises(NoPlot):
                show_plot(thing)

    def test_what_is_handed_in_stays(self):
        plot = ("then", (A, ("or", (B, ("again", C, 0, 2)))))
        text = kept(self, [plot], show_plot)
        first = kept(self, [text], read_plot)
        self.assertEqual(show_plot(plot), text)
        self.assertEqual(read_plot(text), first)
        thing = ["a!b:w", ["-"]]
        with self.assertRaises(NoText):
            read_plot(thing)
        self.assertEqual(thing, ["a!b:w", ["-"]])

    def around(self, one, other):
        """Plots of each form that have the one as a part."""
        return [("then", (one,)), ("then", (other, one)), ("then", (one, other)), ("or", (one,)), ("or", (one, other)),
                ("or", (other, one)), ("again", one, 0, 1), ("again", one, 1, 1), ("again", one, 0, 0)]

    def read_again(self, plot):
        """Hold the plot that is read of the shown text against the plot; the plot that is read."""
        text = show_plot(plot)
        self.assertIs(type(text), str)
        self.assertTrue(is_plot_text(text), text)
        read = read_plot(text)
        self.assertEqual(rows_or_refused(read), rows_or_refused(plot), text)
        return read


if __name__ == "__main__":
    unittest.main()
