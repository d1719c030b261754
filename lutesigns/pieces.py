"""A piece as it is, in whichever kind it is written, and what is asked of its lines."""

from lutesigns.refusals import NoLine, NoResult
from lutesigns.signs import FIRST_BASS, is_stop

MOST_LINES = 512


class Piece:
    """A kind and lines; a line is its length and its stops by courses, a bar's length is 0."""

    def __init__(self, kind, lines):
        self.kind = kind
        self.lines = lines


def has_moment(lines):
    """Whether one of the lines is no bar."""
    return any([length > 0 for length, stops in lines])


def line_numbers(lines, i):
    """What line i tells: 0 of a bar; of a moment its length, how many stops, then each one's course and fret."""
    if i >= len(lines):
        raise NoLine()
    length = lines[i][0]
    stops = lines[i][1]
    if length == 0:
        return [0]
    numbers = [length, len(stops)]
    for course, fret in stops:
        numbers.extend([course, fret])
    return numbers


def line_at(lines, x):
    """The number of the line of the moment that lasts at unit x."""
    end = 0
    for number, line in enumerate(lines):
        # A bar moves the end by nothing, so it never is the first to end behind x.
        end += line[0]
        if x < end:
            return number
    raise NoLine()


def raised_lines(lines, by):
    """The lines with each stop but the basses' by so many frets higher."""
    return [(length, raised_stops(stops, by)) for length, stops in lines]


def raised_stops(stops, by):
    """A moment's stops, by so many frets higher where they are no basses."""
    raised = []
    for course, fret in stops:
        reached = fret + by if course < FIRST_BASS else fret
        if not is_stop(course, reached):
            raise NoResult()
        raised.append((course, reached))
    return raised


def cut_lines(lines, i, j):
    """Lines i to j - 1 alone."""
    if i >= j or j > len(lines):
        raise NoLine()
    if not has_moment(lines[i:j]):
        raise NoResult()
    return lines[i:j]


def joined_lines(first, second):
    """The first lines, then the second."""
    if len(first) + len(second) > MOST_LINES:
        raise NoResult()
    return first + second
