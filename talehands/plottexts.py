"""Plots shown as texts, and read."""

from talehands.errors import NoPlot, NoText
from talehands.plots import MOST_TIMES, is_plot
from talehands.rowtexts import NO_DEEDS, read_part, show_row

OR = " | "
# What ends a part that isn't in brackets.
ENDS = " ()|"


def show_plot(plot):
    """The text of the plot, or NoPlot."""
    if not is_plot(plot):
        raise NoPlot("this is no plot")
    return text_of(plot)


def text_of(plot):
    """As show_plot, of what is known to be a plot."""
    if plot[0] == "row":
        return show_row(plot[1])
    if plot[0] == "again":
        return f"({text_of(plot[1])})*{plot[2]}-{plot[3]}"
    if plot[0] == "or":
        return OR.join([text_of(part) for part in plot[1]])
    return " ".join([text_beside(part) for part in plot[1]])


def text_beside(plot):
    """The plot's text as it can stand beside others: only alternatives need brackets then."""
    return f"({text_of(plot)})" if plot[0] == "or" else text_of(plot)


def read_plot(text):
    """The plot that the text tells, or NoText."""
    if not isinstance(text, str):
        raise NoText("what is no text tells no plot")
    plot, at = read_alternatives(text, 0)
    if at < len(text):
        raise NoText("something stands behind a plot's text")
    return plot


def read_alternatives(text, at):
    """The plot of the alternatives from this place on, and the place behind them, or NoText."""
    plots = []
    while True:
        plot, at = read_beside(text, at)
        plots.append(plot)
        if text[at:at + len(OR)] != OR:
            return joined("or", plots), at
        at += len(OR)


def read_beside(text, at):
    """The plot of the parts beside one another from this place on, and the place behind them, or NoText."""
    plots = []
    while True:
        plot, at = read_one(text, at)
        plots.append(plot)
        if text[at:at + 1] != " " or text[at:at + len(OR)] == OR:
            return joined("then", plots), at
        at += 1


def joined(word, plots):
    """The one plot, where it is alone, else all of them by this word."""
    return plots[0] if len(plots) == 1 else (word, tuple(plots))


def read_one(text, at):
    """The plot of the part at this place, and the place behind it, or NoText."""
    if text[at:at + 1] != "(":
        end = end_of_part(text, at)
        return ("row", read_deeds(text[at:end])), end
    plot, at = read_alternatives(text, at + 1)
    if text[at:at + 1] != ")":
        raise NoText("a bracket of a plot's text isn't closed")
    return read_times(plot, text, at + 1)


def end_of_part(text, at):
    """The first place from this one on where a part without brackets must end."""
    while at < len(text) and text[at] not in ENDS:
        at += 1
    return at


def read_deeds(part):
    """The row of one deed, two or none that the part tells, or NoText."""
    return () if part == NO_DEEDS else tuple(read_part(part))


def read_times(plot, text, at):
    """The plot in brackets that close ahead of this place, as often as is told here, and the place behind that."""
    if text[at:at + 1] != "*":
        return plot, at
    times = text[at + 1:at + 4]
    for least in range(MOST_TIMES + 1):
        for most in range(least, MOST_TIMES + 1):
            if times == f"{least}-{most}":
                return ("again", plot, least, most), at + 4
    raise NoText("how often a plot comes again is told by two figures up to 4 that don't fall, with - between")
