"""The refusals."""


class BoxError(ValueError):
    """Any refusal."""


class BadProgram(BoxError):
    """What is handed in is no program; row tells where."""

    def __init__(self, row):
        BoxError.__init__(self, f"no program: row {row}")
        self.row = row


class BadFrame(BoxError):
    """What is handed in is no frame."""


class BadChoice(BoxError):
    """What is handed in is no choice for this program and frame; row tells where."""

    def __init__(self, row):
        BoxError.__init__(self, f"no choice: row {row}")
        self.row = row


class BadGiven(BoxError):
    """What is handed in for the params, or for what nobody knows, can't be."""


class BadCount(BoxError):
    """A number that is handed in can't be."""


class BadPaper(BoxError):
    """What is handed in is no paper for this program and frame; row tells where."""

    def __init__(self, row):
        BoxError.__init__(self, f"no paper: row {row}")
        self.row = row


class NoRoom(BoxError):
    """The frame has too few boxes or slots."""


class TooMany(BoxError):
    """The program has too many rows."""


class BadText(BoxError):
    """What is handed in is no text of this kind; row tells where."""

    def __init__(self, row):
        BoxError.__init__(self, f"no such text: row {row}")
        self.row = row
