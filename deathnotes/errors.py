"""The refusals: one class for each kind, none under another one."""


class NoteError(ValueError):
    """Any refusal."""


class BadHouse(NoteError):
    """There is no such house, or it is the house itself where another one is asked."""


class BadWorth(NoteError):
    """No number from 0 to 999."""


class BadHandle(NoteError):
    """No handle of a thing of these houses."""


class Full(NoteError):
    """The house has made all the things that it can."""


class NoHold(NoteError):
    """The house itself has no unit of the handle."""


class NoThing(NoteError):
    """No thing of the house's own that stands."""


class NoLink(NoteError):
    """The thing has no unit of the handle."""


class Kept(NoteError):
    """The house itself has a unit of a thing that it would sweep."""


class BadLetter(NoteError):
    """The letter is to another house."""


class BadTables(NoteError):
    """No tables of houses: `number` is how many there are, or the first one that is wrong."""

    def __init__(self, number):
        NoteError.__init__(self, f"bad tables: {number}")
        self.number = number


class BadText(NoteError):
    """No text of tables: `row` is the first row that is wrong, from 0."""

    def __init__(self, row):
        NoteError.__init__(self, f"bad text: row {row}")
        self.row = row
