"""The errors that the package raises."""


class SongError(ValueError):
    """The base class of all errors of the package."""


class BadBook(SongError):
    """A book is invalid; `verse` is -1 if a number of verses is."""

    def __init__(self, refrain, verse):
        super().__init__(f"the book is invalid at refrain {refrain}, verse {verse}")
        self.refrain = refrain
        self.verse = verse


class BadTurns(SongError):
    """Turns do not name one verse of each refrain."""


class BadState(SongError):
    """A state does not fit its book."""


class BadCount(SongError):
    """A number is out of range."""


class BadRefrain(SongError):
    """There is no refrain with this number."""


class BadCertificate(SongError):
    """A certificate is malformed or invalid."""


class TooManyWords(SongError):
    """More words were heard than can be inferred from."""


class TooManyCandidates(SongError):
    """Too many different turns are possible."""


class RefrainBusy(SongError):
    """The refrain is being sung."""


class BadBranch(SongError):
    """A branch cannot have this name, or cannot be deleted."""

    def __init__(self, name):
        super().__init__(f"the branch {name} cannot be created or deleted")
        self.name = name


class NoBranch(SongError):
    """There is no branch with this name."""

    def __init__(self, name):
        super().__init__(f"there is no branch {name}")
        self.name = name


class BadOperation(SongError):
    """An operation is invalid or cannot be performed."""

    def __init__(self, index):
        super().__init__(f"operation {index} is wrong")
        self.index = index


class BadSource(SongError):
    """A source is not well formed."""

    def __init__(self, row, column):
        super().__init__(f"the source is wrong at row {row}, column {column}")
        self.row = row
        self.column = column


class BadProgram(SongError):
    """A source is well formed, but describes no book."""

    def __init__(self, reason, row, column):
        super().__init__(f"the program is wrong at row {row}, column {column}: {reason}")
        self.reason = reason
        self.row = row
        self.column = column


class BadText(SongError):
    """A plain text is not well formed."""

    def __init__(self, row):
        super().__init__(f"the text is wrong in row {row}")
        self.row = row


class BadData(SongError):
    """Bytes are not well formed."""

    def __init__(self, offset):
        super().__init__(f"the data is wrong at offset {offset}")
        self.offset = offset


class BadRecord(SongError):
    """A complete record of a journal cannot be performed."""

    def __init__(self, index):
        super().__init__(f"record {index} is wrong")
        self.index = index
