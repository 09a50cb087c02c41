"""Each hand's views of a book, and its machine."""

from talehands.views import view


def book_views(book, hand):
    """The hand's views of all stories, rising, each once."""
    return tuple(sorted({view(story, hand) for story in book}))


def machine(book, hand):
    """The hand's machine: a tuple of states (end, steps).

    A state is known by the rows that it lets come, and those behind a deed are what is left of them, so
    no state is made twice and each one leads to an end.
    """
    let_come = [book_views(book, hand)]
    numbers = {let_come[0]: 0}
    states = []
    while len(states) < len(let_come):
        rows = let_come[len(states)]
        steps = []
        for deed in first_deeds(rows):
            left = left_behind(rows, deed)
            if left not in numbers:
                numbers[left] = len(let_come)
                let_come.append(left)
            steps.append((deed, numbers[left]))
        states.append((() in rows, tuple(steps)))
    return tuple(states)


def first_deeds(rows):
    """The first deeds of the rows that have any, rising, each once."""
    return sorted({row[0] for row in rows if row})


def left_behind(rows, deed):
    """What is left of the rising rows that begin with the deed behind it, rising, too."""
    return tuple([row[1:] for row in rows if row[:1] == (deed,)])
