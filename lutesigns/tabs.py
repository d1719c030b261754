"""The calls."""

from lutesigns.reading import read_piece
from lutesigns.refusals import NoPiece, Refusal, TooLong

MOST_BYTES = 65536


def judge(t):
    """How many lines a text has but the first; -6 and the place of its fault, if it is no piece's."""
    try:
        check_size(t)
        piece = read_piece(t)
    except NoPiece as refusal:
        return [refusal.number, refusal.place]
    except Refusal as refusal:
        return [refusal.number]
    return [len(piece.lines)]


def sizes(t):
    """The kind, how many moments, bars and stops, and all moments' lengths together."""
    try:
        check_size(t)
        piece = read_piece(t)
    except Refusal as refusal:
        return [refusal.number]
    moments = [stops for length, stops in piece.lines if length > 0]
    bars = len(piece.lines) - len(moments)
    stopped = sum([len(stops) for stops in moments])
    units = sum([length for length, stops in piece.lines])
    return [piece.kind, len(moments), bars, stopped, units]


def check_size(t):
    """Refuses a text that is too long to be read."""
    if len(t) > MOST_BYTES:
        raise TooLong()
