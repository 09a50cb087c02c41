"""The refusals: each one a TaleError, none of them under another one."""


class TaleError(ValueError):
    """Any refusal."""


class NoText(TaleError):
    """What is no text, or not the text of what should be read."""


class NoRow(TaleError):
    """A row that can't go; number is that of its first deed that is none or can't be done."""

    def __init__(self, number):
        TaleError.__init__(self, f"the row can't go, see its deed {number}")
        self.number = number


class NoRooms(TaleError):
    """What is no number of rooms."""


class NoPlot(TaleError):
    """What is no plot."""


class TooMany(TaleError):
    """More rows, deeds, stories or standings than are let."""


class NoBook(TaleError):
    """What no book is made of; number is that of the first row that is no story, else None."""

    def __init__(self, number):
        TaleError.__init__(self, f"no book is made of this, see its row {number}")
        self.number = number


class NoHand(TaleError):
    """What is no leader, or no hands, of the book."""


class NoNames(TaleError):
    """What is no renaming of the book."""


class NoCall(TaleError):
    """What the desk doesn't know as a row."""


class NoKept(TaleError):
    """A name by which no book is kept."""

    def __init__(self, name):
        TaleError.__init__(self, f"no book is kept by the name {name}")
        self.name = name
