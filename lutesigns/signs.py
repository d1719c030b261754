"""The signs of kinds, lengths, frets and stops, each with what it means."""

KIND_WORDS = (("french", 0), ("italian", 1), ("german", 2))
GERMAN = 2

LENGTH_SIGNS = (
    ("x", 1),
    ("t", 2), ("t.", 3),
    ("s", 4), ("s.", 6),
    ("e", 8), ("e.", 12),
    ("q", 16), ("q.", 24),
    ("h", 32), ("h.", 48),
    ("w", 64), ("w.", 96),
)

FRETS = 16
FRET_LETTERS = ("abcdefghiklmnopq", "0123456789xyzvuw")
NO_STOP = "."
BAR = "|"

FIRST_BASS = 7
LAST_BASS = 14
BASSES = (
    ("a", "/a", "//a", "///a", "4", "5", "6", "7"),
    ("7", "8", "9", "10", "11", "12", "13", "14"),
    ("-7", "-8", "-9", "-10", "-11", "-12", "-13", "-14"),
)

GERMAN_CROSSINGS = "abcdefghiklmnopqrstvxyz&9"
GERMAN_SIXTH = "+ABCDEFGHIKLMNOP"

# The Italians write the highest course last; the Germans have no row of courses.
ROW_COURSES = ((1, 2, 3, 4, 5, 6), (6, 5, 4, 3, 2, 1), ())


def is_stop(course, fret):
    """Whether this course may be stopped at this fret."""
    if FIRST_BASS <= course <= LAST_BASS:
        return fret == 0
    return 1 <= course < FIRST_BASS and 0 <= fret < FRETS


def german_sign(course, fret):
    """The German sign of a stop on courses 1 to 6."""
    if course == 6:
        return GERMAN_SIXTH[fret]
    if fret == 0:
        return str(6 - course)
    letter = GERMAN_CROSSINGS[5 * ((fret - 1) % 5) + 5 - course]
    return letter * ((fret - 1) // 5 + 1)


def stop_sign(kind, course, fret):
    """The sign of a stop among a moment's stops in a kind."""
    if course >= FIRST_BASS:
        return BASSES[kind][course - FIRST_BASS]
    if kind == GERMAN:
        return german_sign(course, fret)
    return FRET_LETTERS[kind][fret]


def row_signs(kind):
    """The signs of one place in the row of six, each with its fret; None where nothing is stopped."""
    if kind == GERMAN:
        return []
    signs = [(letter, fret) for fret, letter in enumerate(FRET_LETTERS[kind])]
    signs.append((NO_STOP, None))
    return signs


def stop_signs(kind):
    """The signs that stand by themselves between blanks, each with its stop."""
    signs = []
    if kind == GERMAN:
        for course in range(1, FIRST_BASS):
            signs.extend([(german_sign(course, fret), (course, fret)) for fret in range(FRETS)])
    for nth, text in enumerate(BASSES[kind]):
        signs.append((text, (FIRST_BASS + nth, 0)))
    return signs
