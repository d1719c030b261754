"""Writes a piece's text."""

from lutesigns.signs import BAR, FIRST_BASS, GERMAN, KIND_WORDS, LENGTH_SIGNS, NO_STOP, ROW_COURSES, stop_sign


def text_codes(text):
    """A text as the list of its bytes."""
    return [ord(letter) for letter in text]


def write_lines(kind, lines):
    """The bytes of the text in a kind that tells these lines."""
    rows = [KIND_WORDS[kind][0]]
    length_signs = dict([(length, text) for text, length in LENGTH_SIGNS])
    before = 0
    for length, stops in lines:
        if length == 0:
            rows.append(BAR)
            continue
        length_sign = "" if length == before else length_signs[length]
        rows.append(length_sign + " " + stops_text(kind, stops))
        before = length
    return text_codes("".join([row + "\n" for row in rows]))


def stops_text(kind, stops):
    """A moment's stops as they stand in a kind."""
    if kind == GERMAN:
        signs = [stop_sign(kind, course, fret) for course, fret in stops]
        return " ".join(signs) if len(signs) > 0 else NO_STOP
    frets = dict(stops)
    row = [stop_sign(kind, course, frets[course]) if course in frets else NO_STOP for course in ROW_COURSES[kind]]
    basses = [stop_sign(kind, course, fret) for course, fret in stops if course >= FIRST_BASS]
    return " ".join(["".join(row)] + basses)
