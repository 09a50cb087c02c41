"""Plots, and the rows they have."""

from talehands.deeds import is_row
from talehands.errors import NoPlot, TooMany
from talehands.words import is_whole

MOST_ROWS = 200
MOST_DEEDS = 24
MOST_TIMES = 4


def is_plot(thing):
    """Whether the thing is a plot."""
    if not isinstance(thing, tuple) or len(thing) == 0 or not isinstance(thing[0], str):
        return False
    if thing[0] == "again":
        return is_again(thing)
    if len(thing) != 2:
        return False
    if thing[0] == "row":
        return is_row(thing[1])
    return thing[0] in ("then", "or") and are_plots(thing[1])


def are_plots(thing):
    """Whether the thing is a tuple of one plot or more."""
    return isinstance(thing, tuple) and len(thing) > 0 and all([is_plot(part) for part in thing])


def is_again(thing):
    """Whether the tuple that begins with again is a plot."""
    if len(thing) != 4 or not is_plot(thing[1]):
        return False
    least, most = thing[2:]
    return is_whole(least) and is_whole(most) and 0 <= least <= most <= MOST_TIMES


def plot_rows(plot):
    """The list of the plot's rows, in order, each once, or NoPlot, or TooMany."""
    if not is_plot(plot):
        raise NoPlot("this is no plot")
    return rows_of(plot)


def rows_of(plot):
    """As plot_rows, of what is known to be a plot."""
    if plot[0] == "row":
        return rows_or([[plot[1]]])
    if plot[0] == "again":
        return rows_again(rows_of(plot[1]), plot[2], plot[3])
    parts = [rows_of(part) for part in plot[1]]
    return rows_or(parts) if plot[0] == "or" else rows_then(parts)


def rows_or(parts):
    """The rows of all parts, each once, or TooMany."""
    found = {}
    for rows in parts:
        for row in rows:
            find_row(found, row)
    return list(found)


def rows_then(parts):
    """The rows of the first part, each with all of the next behind it, and so on, or TooMany."""
    told = [()]
    for rows in parts:
        told = each_behind(told, rows)
    return told


def rows_again(rows, least, most):
    """The rows least times behind one another, then once more, up to most times, or TooMany."""
    told = []
    now = [()]
    for times in range(most + 1):
        if times > 0:
            now = each_behind(now, rows)
        if times >= least:
            told.append(now)
    return rows_or(told)


def each_behind(firsts, seconds):
    """Each of the first rows with each of the second ones behind it, or TooMany.

    A plot has no fewer rows, and none shorter, for what comes behind them, so to refuse here is soon
    enough and never too soon.
    """
    found = {}
    for first in firsts:
        for second in seconds:
            find_row(found, first + second)
    return list(found)


def find_row(found, row):
    """Put the row behind those found, where it isn't among them, or refuse it with TooMany."""
    if len(row) > MOST_DEEDS:
        raise TooMany("a row of more than 24 deeds")
    found[row] = True
    if len(found) > MOST_ROWS:
        raise TooMany("more than 200 rows")
