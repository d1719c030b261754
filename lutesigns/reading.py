"""Reads a piece's text; NoPiece tells the place where it is at fault."""

from lutesigns.pieces import MOST_LINES, Piece, has_moment
from lutesigns.refusals import NoPiece
from lutesigns.signs import GERMAN, KIND_WORDS, LENGTH_SIGNS, ROW_COURSES, row_signs, stop_signs

ROW_END = 10
BLANK = 32
POINT = 46
STROKE = 124
NO_BYTE = 256


class SignTable:
    """Signs as tuples of bytes: all their beginnings, and what the whole ones mean."""

    def __init__(self, signs):
        self.beginnings = {}
        self.meanings = {}
        for text, meaning in signs:
            codes = tuple([ord(letter) for letter in text])
            for size in range(1, len(codes) + 1):
                self.beginnings[codes[:size]] = True
            self.meanings[codes] = meaning


class Form:
    """The signs that a kind's moments are read by."""

    def __init__(self, kind):
        self.kind = kind
        self.lengths = SignTable(LENGTH_SIGNS)
        self.frets = SignTable(row_signs(kind))
        self.stops = SignTable(stop_signs(kind))


class Reader:
    """A text, and the place up to which it is read."""

    def __init__(self, t):
        self.t = t
        self.place = 0

    def peek(self):
        """The byte that comes; behind the end none, so that a text that ends early is at fault there."""
        if self.place < len(self.t):
            return self.t[self.place]
        return NO_BYTE

    def take(self, byte):
        """Goes past this byte, which must come."""
        if self.peek() != byte:
            raise NoPiece(self.place)
        self.place += 1

    def take_sign(self, table):
        """Goes past the longest sign that stands here, and tells what it means."""
        taken = ()
        while taken + (self.peek(),) in table.beginnings:
            taken = taken + (self.peek(),)
            self.place += 1
        if taken not in table.meanings:
            raise NoPiece(self.place)
        return table.meanings[taken]


def read_piece(t):
    """The piece that the text tells."""
    reader = Reader(t)
    kind = reader.take_sign(SignTable(KIND_WORDS))
    reader.take(ROW_END)
    lines = read_lines(reader, Form(kind))
    if not has_moment(lines):
        raise NoPiece(len(t))
    return Piece(kind, lines)


def read_lines(reader, form):
    """The lines behind the first, up to the text's end."""
    lines = []
    before = 0
    while reader.peek() != NO_BYTE:
        start = reader.place
        fresh = read_line(reader, form, before)
        # A line too many is at fault only once it stands whole: a fault within it comes first.
        if len(lines) == MOST_LINES:
            raise NoPiece(start)
        lines.append(fresh)
        # A bar lasts nothing, so the length before it still holds behind it.
        if fresh[0] > 0:
            before = fresh[0]
    return lines


def read_line(reader, form, before):
    """One line, where before is the length of the moment before it (0 if there is none)."""
    if reader.peek() == STROKE:
        reader.take(STROKE)
        reader.take(ROW_END)
        return (0, [])
    length = read_length(reader, form, before)
    stops = read_stops(reader, form)
    reader.take(ROW_END)
    return (length, stops)


def read_length(reader, form, before):
    """A moment's length, with the blank behind its sign."""
    start = reader.place
    # The first moment has no length to go on with: there a blank is no sign, and so the fault.
    if reader.peek() == BLANK and before > 0:
        reader.take(BLANK)
        return before
    length = reader.take_sign(form.lengths)
    reader.take(BLANK)
    if length == before:
        raise NoPiece(start)
    return length


def read_stops(reader, form):
    """A moment's stops, by courses."""
    if form.kind == GERMAN:
        if reader.peek() == POINT:
            reader.take(POINT)
            return []
        return read_single_signs(reader, form, [])
    stops = read_row(reader, form)
    if reader.peek() != BLANK:
        return stops
    reader.take(BLANK)
    return read_single_signs(reader, form, stops)


def read_row(reader, form):
    """The stops that the six signs of a row tell, by courses."""
    stops = []
    for course in ROW_COURSES[form.kind]:
        fret = reader.take_sign(form.frets)
        if fret is not None:
            stops.append((course, fret))
    return sorted(stops)


def read_single_signs(reader, form, above):
    """The stops above, and behind them those whose signs come, a blank between two."""
    stops = list(above)
    while True:
        start = reader.place
        stop = reader.take_sign(form.stops)
        if len(stops) > 0 and stop[0] <= stops[-1][0]:
            raise NoPiece(start)
        stops.append(stop)
        if reader.peek() != BLANK:
            return stops
        reader.take(BLANK)
