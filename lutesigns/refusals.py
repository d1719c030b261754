"""What a call refuses, one class for each number."""


class Refusal(Exception):
    """A call is not answered; number says why."""

    def __init__(self, number):
        self.number = number


class TooLong(Refusal):
    """A text has more bytes than a text may have."""

    def __init__(self):
        Refusal.__init__(self, -2)


class NoPiece(Refusal):
    """A text is no piece's text; place is where it is at fault."""

    def __init__(self, place):
        Refusal.__init__(self, -6)
        self.place = place


class NoSecondPiece(Refusal):
    """The second of two texts is no piece's text."""

    def __init__(self):
        Refusal.__init__(self, -8)


class NotTaken(Refusal):
    """A kind that is none, or a number of frets that nothing is moved by."""

    def __init__(self):
        Refusal.__init__(self, -1)


class NoLine(Refusal):
    """A line, lines or a moment that the piece does not have."""

    def __init__(self):
        Refusal.__init__(self, -4)


class NoResult(Refusal):
    """What would come is no piece."""

    def __init__(self):
        Refusal.__init__(self, -3)
