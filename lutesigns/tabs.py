"""The calls."""

from lutesigns.pieces import cut_lines, joined_lines, line_at, line_numbers, raised_lines
from lutesigns.reading import read_piece
from lutesigns.refusals import NoPiece, NoSecondPiece, NotTaken, Refusal, TooLong
from lutesigns.signs import FRETS, KIND_WORDS, is_stop, stop_sign
from lutesigns.writing import text_codes, write_lines

MOST_BYTES = 65536


def judge(t):
    """How many lines a text has but the first; -6 and the place of its fault, if it is no piece's."""
    try:
        piece = read_text(t)
    except NoPiece as refusal:
        return [refusal.number, refusal.place]
    except Refusal as refusal:
        return [refusal.number]
    return [len(piece.lines)]


def sizes(t):
    """The kind, how many moments, bars and stops, and all moments' lengths together."""
    try:
        piece = read_text(t)
    except Refusal as refusal:
        return [refusal.number]
    moments = [stops for length, stops in piece.lines if length > 0]
    bars = len(piece.lines) - len(moments)
    stopped = sum([len(stops) for stops in moments])
    units = sum([length for length, stops in piece.lines])
    return [piece.kind, len(moments), bars, stopped, units]


def line(i, t):
    """Line i: 0 of a bar; of a moment its length, how many stops, then each one's course and fret."""
    try:
        piece = read_text(t)
        return line_numbers(piece.lines, i)
    except Refusal as refusal:
        return [refusal.number]


def turn(kind, t):
    """The piece's text in that kind."""
    try:
        piece = read_text(t)
        check_kind(kind)
        return counted(write_lines(kind, piece.lines))
    except Refusal as refusal:
        return [refusal.number]


def same(t, u):
    """1 if both texts tell the same piece, else 0."""
    try:
        check_size(t)
        check_size(u)
        one = read_piece(t)
        other = read_second(u)
    except Refusal as refusal:
        return [refusal.number]
    return [1 if one.lines == other.lines else 0]


def at(x, t):
    """The number of the line of the moment that lasts at unit x."""
    try:
        piece = read_text(t)
        return [line_at(piece.lines, x)]
    except Refusal as refusal:
        return [refusal.number]


def up(by, t):
    """The text of the piece with each stop on courses 1 to 6 by so many frets higher."""
    try:
        piece = read_text(t)
        check_move(by)
        return counted(write_lines(piece.kind, raised_lines(piece.lines, by)))
    except Refusal as refusal:
        return [refusal.number]


def cut(i, j, t):
    """The text of lines i to j - 1 alone."""
    try:
        piece = read_text(t)
        return counted(write_lines(piece.kind, cut_lines(piece.lines, i, j)))
    except Refusal as refusal:
        return [refusal.number]


def join(t, u):
    """The text, in the first one's kind, of the first one's lines, then the second one's."""
    try:
        check_size(t)
        check_size(u)
        one = read_piece(t)
        other = read_second(u)
        return counted(write_lines(one.kind, joined_lines(one.lines, other.lines)))
    except Refusal as refusal:
        return [refusal.number]


def sign(kind, course, fret):
    """The sign that a stop stands as among a moment's stops in a kind; 0 if it is no stop."""
    try:
        check_kind(kind)
    except Refusal as refusal:
        return [refusal.number]
    if not is_stop(course, fret):
        return [0]
    return counted(text_codes(stop_sign(kind, course, fret)))


def read_text(t):
    """The piece that the only text of a call tells."""
    check_size(t)
    return read_piece(t)


def read_second(u):
    """The piece that the second of two texts tells; it is refused by a number of its own."""
    try:
        return read_piece(u)
    except NoPiece:
        raise NoSecondPiece() from None


def check_size(t):
    """Refuses a text that is too long to be read."""
    if len(t) > MOST_BYTES:
        raise TooLong()


def check_kind(kind):
    """Refuses a kind that is none."""
    if kind >= len(KIND_WORDS):
        raise NotTaken()


def check_move(by):
    """Refuses to move by more frets than there are above the open one."""
    if abs(by) >= FRETS:
        raise NotTaken()


def counted(codes):
    """How many bytes, then these."""
    return [len(codes)] + codes
