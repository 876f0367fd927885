"""The refusals: one class for each reason, all straight under LoftError."""


class LoftError(ValueError):
    """Any refusal."""


class TooMany(LoftError):
    """More orders or bits than are looked through."""


class NoRoom(LoftError):
    """A meaning needs more hidden places than the machine has."""


class NoRow(LoftError):
    """A number is no row's."""


class NoLoft(LoftError):
    """A loft can't be made of these."""


class NoCells(LoftError):
    """The memory can't be made longer by so many cells."""


class NotStill(LoftError):
    """The loft does not stand still."""


class NoText(LoftError):
    """A text is none of the kind that is read; row is the first wrong one, from 1."""

    def __init__(self, row):
        super().__init__(f"row {row} of the text is not right")
        self.row = row


class NoName(LoftError):
    """No instruction has this name."""

    def __init__(self, name):
        super().__init__(f"no instruction is called {name}")
        self.name = name
