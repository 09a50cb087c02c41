"""The checker's own way through a book: it uses nothing by which answers are found."""

from talehands.books import book_hands
from talehands.deeds import hand_of
from talehands.lines import can_be_done, can_go, do_deed, lines_behind
from talehands.rooms import keeps
from talehands.views import hands_of, view


class Walk:
    """A book put to work within rooms.

    views list for each hand of the book, in order, its views of all stories, by their numbers; nexts list for
    each hand, by the beginnings of its views, a dict whose keys are the deeds that may come next.
    """

    def __init__(self, book, rooms):
        self.book = book
        self.rooms = rooms
        self.hands = book_hands(book)
        self.views = [[view(story, hand) for story in book] for hand in self.hands]
        self.nexts = [nexts_in(views) for views in self.views]


def nexts_in(views):
    """By the beginnings of the views a dict whose keys are the deeds that may come next."""
    nexts = {}
    for one in views:
        for many, deed in enumerate(one):
            deeds = nexts.setdefault(one[:many], {})
            deeds[deed] = True
        nexts.setdefault(one, {})
    return nexts


def is_run_in(walk, thing):
    """Whether the thing, of any kind, is a run of the book within the rooms."""
    if not can_go(thing) or not keeps(thing, walk.rooms):
        return False
    if not all([hand in walk.hands for hand in hands_of(thing)]):
        return False
    return all([begun in nexts for begun, nexts in zip(standing_in(walk, thing), walk.nexts)])


def standing_in(walk, run):
    """The tuple of the views of the run, one for each hand of the book, in order."""
    return tuple([view(run, hand) for hand in walk.hands])


def deeds_on(walk, standing, lines):
    """The list of the deeds that can go on where the hands stand so and these lines are under way."""
    found = []
    for nexts, begun in zip(walk.nexts, standing):
        found += [deed for deed in nexts[begun] if can_be_done(lines, deed) and has_room(walk, lines, deed)]
    return found


def has_room(walk, lines, deed):
    """Whether the rooms let the deed be done where these lines are under way."""
    return deed[0] == "take" or walk.rooms is None or len(lines.get(deed[1:3], [])) < walk.rooms


def is_whole_in(walk, standing, lines):
    """Whether each hand has one of its views so, and nothing is under way."""
    return not any(lines.values()) and all([ended in views for ended, views in zip(standing, walk.views)])


def is_stuck_behind(walk, run):
    """Whether no deed can go on behind the run, and its standing isn't whole."""
    standing = standing_in(walk, run)
    lines = lines_behind(run)
    return not deeds_on(walk, standing, lines) and not is_whole_in(walk, standing, lines)


def reached_in(walk, most):
    """By each standing that is reached the lines under way behind it, None where they are more than so many."""
    first = standing_in(walk, ())
    reached = {first: {}}
    waiting = [first]
    while waiting and len(reached) <= most:
        standing = waiting.pop()
        for deed in deeds_on(walk, standing, reached[standing]):
            behind = standing_with(walk, standing, deed)
            if behind not in reached:
                reached[behind] = lines_with(reached[standing], deed)
                waiting.append(behind)
    return reached if len(reached) <= most else None


def standing_with(walk, standing, deed):
    """The standing behind this one, by the deed."""
    at = walk.hands.index(hand_of(deed))
    return standing[:at] + (standing[at] + (deed,),) + standing[at + 1:]


def lines_with(lines, deed):
    """The lines behind these, which stay as they are, by the deed."""
    behind = {pair: list(words) for pair, words in lines.items()}
    do_deed(behind, deed)
    return behind
