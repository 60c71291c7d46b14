"""The refusals: each a class with its number and the signed numbers that are told with it."""


class Refusal(Exception):
    """What the calls' refusals have in common."""

    def __init__(self, number, signed):
        Exception.__init__(self, "refused")
        self.number = number
        self.signed = signed


class TooLong(Refusal):
    """A text is longer than may be."""

    def __init__(self):
        Refusal.__init__(self, -1, [])


class NoPoint(Refusal):
    """What is handed in as a point is none."""

    def __init__(self):
        Refusal.__init__(self, -1, [])


class NoDraft(Refusal):
    """A text is no draft's: its fault's kind and place."""

    def __init__(self, kind, place):
        Refusal.__init__(self, -2, [kind, place])


class NoPattern(Refusal):
    """A text is no pattern's: its fault's line."""

    def __init__(self, line):
        Refusal.__init__(self, -2, [line, 0])


class NoTable(Refusal):
    """A text is no table's: its first line that can't stand."""

    def __init__(self, line):
        Refusal.__init__(self, -3, [line, 0])


class NoPiece(Refusal):
    """A pattern has no such piece."""

    def __init__(self):
        Refusal.__init__(self, -4, [])


class NoPlace(Refusal):
    """A point is no place of the piece."""

    def __init__(self):
        Refusal.__init__(self, -4, [])


class NotWorked(Refusal):
    """A draft can't be worked over a table: its fault's statement and kind."""

    def __init__(self, statement, kind):
        Refusal.__init__(self, -5, [statement, kind])


class TooFine(Refusal):
    """What is to be told is too fine for that."""

    def __init__(self):
        Refusal.__init__(self, -6, [])
