"""The refusals of the program."""


class MillError(ValueError):
    """Any refusal."""


class NoNumber(MillError):
    """A number that there is not, as one divided by 0."""


class NoPiece(MillError):
    """A line or an arc that there is not."""


class TooMuch(MillError):
    """More rows, rounds or pieces than are let."""


class NoKin(MillError):
    """Two drawings that can't be held against each other."""


class NoRow(MillError):
    """A row that is none; row is its number."""

    def __init__(self, row):
        self.row = row


class NoText(MillError):
    """A line of a text that is not written as a program is; line is its number."""

    def __init__(self, line):
        self.line = line
