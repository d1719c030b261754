"""Builds texts of pieces, and finds a text's fault in another way than the package does.

A piece is a list of lines: BAR, or a moment (length, {course: fret}).
"""

import re
import unittest

BAR = None
KINDS = (0, 1, 2)
WORDS = ("french", "italian", "german")
LENGTHS = {
    1: "x", 2: "t", 4: "s", 8: "e", 16: "q", 32: "h", 64: "w",
    3: "t.", 6: "s.", 12: "e.", 24: "q.", 48: "h.", 96: "w.",
}
FRENCH_FRETS = "a b c d e f g h i k l m n o p q".split()
ITALIAN_FRETS = "0 1 2 3 4 5 6 7 8 9 x y z v u w".split()
FRENCH_BASSES = {7: "a", 8: "/a", 9: "//a", 10: "///a", 11: "4", 12: "5", 13: "6", 14: "7"}
ITALIAN_BASSES = {7: "7", 8: "8", 9: "9", 10: "10", 11: "11", 12: "12", 13: "13", 14: "14"}
# By course, written out as an old lute book would: open, then frets 1 to 15.
GERMAN_ROWS = {
    1: "5 e k p v 9 ee kk pp vv 99 eee kkk ppp vvv 999".split(),
    2: "4 d i o t & dd ii oo tt && ddd iii ooo ttt &&&".split(),
    3: "3 c h n s z cc hh nn ss zz ccc hhh nnn sss zzz".split(),
    4: "2 b g m r y bb gg mm rr yy bbb ggg mmm rrr yyy".split(),
    5: "1 a f l q x aa ff ll qq xx aaa fff lll qqq xxx".split(),
    6: "+ A B C D E F G H I K L M N O P".split(),
}
GERMAN_BASSES = {7: "-7", 8: "-8", 9: "-9", 10: "-10", 11: "-11", 12: "-12", 13: "-13", 14: "-14"}

ALL_STOPS = [(c, f) for c in range(1, 7) for f in range(16)] + [(c, 0) for c in range(7, 15)]


class Case(unittest.TestCase):
    """A test that tells where two lists differ; unittest's own would compare long ones for minutes."""

    def setUp(self):
        self.addTypeEqualityFunc(list, self.lists_equal)

    def lists_equal(self, first, second, msg=None):
        if first == second:
            return
        place = 0
        while first[place:place + 1] == second[place:place + 1]:
            place += 1
        near = slice(max(0, place - 10), place + 10)
        self.fail("lists of %d and %d differ from place %d: %r, %r; %s" % (
            len(first), len(second), place, first[near], second[near], msg))


def codes(text):
    """A text as the list of its bytes."""
    return list(text.encode("latin-1"))


def german_sign(course, fret):
    return GERMAN_BASSES[course] if course > 6 else GERMAN_ROWS[course][fret]


def stops_text(kind, stops):
    """A moment's stops as they stand in a kind."""
    if kind == 2:
        return " ".join(german_sign(c, stops[c]) for c in sorted(stops)) or "."
    frets, basses = ((FRENCH_FRETS, FRENCH_BASSES), (ITALIAN_FRETS, ITALIAN_BASSES))[kind]
    row = "".join(frets[stops[c]] if c in stops else "." for c in range(1, 7))
    if kind == 1:
        row = row[::-1]
    return " ".join([row] + [basses[c] for c in sorted(stops) if c > 6])


def piece_text(kind, piece):
    """A piece's text in a kind."""
    rows = [WORDS[kind]]
    before = None
    for line in piece:
        if line is BAR:
            rows.append("|")
            continue
        length, stops = line
        rows.append(("" if length == before else LENGTHS[length]) + " " + stops_text(kind, stops))
        before = length
    return "".join(row + "\n" for row in rows)


def piece_sizes(kind, piece):
    moments = [line for line in piece if line is not BAR]
    return [
        kind,
        len(moments),
        len(piece) - len(moments),
        sum(len(stops) for length, stops in moments),
        sum(length for length, stops in moments),
    ]


def line_told(line):
    """What the call line answers of a line."""
    if line is BAR:
        return [0]
    length, stops = line
    return [length, len(stops)] + [number for course in sorted(stops) for number in (course, stops[course])]


def counted(text):
    """A text as a call answers it: how many bytes, then these."""
    return [len(text)] + codes(text)


def some_piece(dice, fewest=0, most=8):
    """A piece by the dice; of no line, or of bars alone, it is none."""
    piece = []
    for number in range(dice.randint(fewest, most)):
        if dice.random() < 0.25:
            piece.append(BAR)
            continue
        courses = dice.sample(range(1, 15), dice.choice((0, 1, 1, 2, 3, 6, 14)))
        stops = {course: dice.randint(0, 15) if course < 7 else 0 for course in courses}
        piece.append((dice.choice((1, 2, 16, 16, 16, 24, 96)), stops))
    return piece


def some_real_piece(dice, most=8):
    """A piece by the dice, with a moment at least."""
    while True:
        piece = some_piece(dice, 1, most)
        if any(line is not BAR for line in piece):
            return piece


PARTS = [
    " ", "\n", ".", "|", "a", "aa", "7", "-", "-1", "1", "10", "/", "//a", "q", "q.", "x",
    " a", " 7", "|\n", "\n ", "9",
]


def mutated(dice, text):
    """The text with something put in, taken out or put in the place of something."""
    place = dice.randint(0, len(text))
    behind = min(len(text), place + dice.choice((0, 0, 1, 1, 2, 5)))
    there = dice.choice(PARTS + ["", "", text[behind:behind + 4], text[max(0, place - 4):place]])
    return text[:place] + there + text[behind:]


# All 14 courses, at frets that differ.
FOURTEEN = {1: 0, 2: 15, 3: 7, 4: 10, 5: 1, 6: 12, **{course: 0 for course in range(7, 15)}}
# Every length where its sign is written, and again where it isn't, behind a moment and behind bars.
ALL_LENGTHS = [
    line for length in LENGTHS for line in ((length, {1: 2}), (length, {}), BAR, BAR, (length, {2: 1, 9: 0}))
]
# Every stop, one by one.
EVERY_STOP = [(16, {course: fret}) for course, fret in ALL_STOPS]
LARGEST = [
    ((96, 48)[number % 2], {course: 15 if course < 7 else 0 for course in range(1, 15)}) for number in range(512)
]
PIECES = [
    [(1, {})],
    [(96, FOURTEEN)],
    [BAR, BAR, (24, {1: 3}), BAR, (24, {}), (12, FOURTEEN), (12, {6: 0, 7: 0}), BAR, (24, {14: 0}), BAR],
    ALL_LENGTHS,
    EVERY_STOP,
    [(8, {1: 0})] * 512,
    [BAR] * 511 + [(96, {14: 0})],
    LARGEST,
]

TOO_LONG = [
    [0] * 65537,
    [255] * 66000,
    codes(piece_text(0, [(8, {1: 0})]).ljust(65537, "|")),
    codes("german\n" + "x .\n" * 16384),
]
NO_PIECES = [codes(text) for text in (
    "", "french", "french\n", "italian\n|\n", "german\n .\n", "german\nq a e\n", "french\nq a.....\nq b.....\n",
    "italian\nq 0..... 8 7\n", "french\nq a.....", "german\nq aaaa\n", "lute\nq .\n", "german\n" + "q .\n" + "|\n" * 512,
)] + [[0] * 65536]


# A form is two patterns: of what is whole, and of what may still become whole.

def word(text):
    begun = ""
    for letter in reversed(text):
        begun = "(?:%s%s)?" % (re.escape(letter), begun)
    return re.escape(text), begun


def either(forms):
    return "(?:%s)" % "|".join(f[0] for f in forms), "(?:%s)" % "|".join(f[1] for f in forms)


def behind(first, second):
    return first[0] + second[0], "(?:%s%s|%s)" % (first[0], second[1], first[1])


def often(form):
    return "(?:%s)*" % form[0], "(?:%s)*%s" % form


def chain(*forms):
    whole = forms[-1]
    for form in reversed(forms[:-1]):
        whole = behind(form, whole)
    return whole


def kind_form(kind):
    blank, end = word(" "), word("\n")
    if kind == 2:
        sign = either([word(german_sign(c, f)) for c, f in ALL_STOPS])
        stops = either([word("."), chain(sign, often(chain(blank, sign)))])
    else:
        frets, basses = ((FRENCH_FRETS, FRENCH_BASSES), (ITALIAN_FRETS, ITALIAN_BASSES))[kind]
        place = either([word(letter) for letter in frets + ["."]])
        bass = either([word(text) for text in basses.values()])
        stops = chain(place, place, place, place, place, place, often(chain(blank, bass)))
    length = either([word(text) for text in [""] + list(LENGTHS.values())])
    line = either([word("|"), chain(length, blank, stops)])
    return chain(word(WORDS[kind]), end, often(chain(line, end)))


FORMS = [(re.compile(whole), re.compile(begun)) for whole, begun in map(kind_form, KINDS)]
LENGTH_OF = {text: length for length, text in LENGTHS.items()}
COURSE_OF = (
    {text: course for course, text in FRENCH_BASSES.items()},
    {text: course for course, text in ITALIAN_BASSES.items()},
    {german_sign(c, f): c for c, f in ALL_STOPS},
)


def good_start(text):
    """The kind of the text, and how many of its bytes can stand by that kind's form."""
    best = (0, -1)
    for kind in KINDS:
        low, high = 0, len(text)
        while low < high:
            middle = (low + high + 1) // 2
            if FORMS[kind][1].fullmatch(text[:middle]):
                low = middle
            else:
                high = middle - 1
        if low > best[1]:
            best = (kind, low)
    return best


def fault(text):
    """Where the text is at fault; None if it is a piece's text."""
    kind, good = good_start(text)
    place = 0
    before = None
    rows = text[:good].split("\n")
    for number, row in enumerate(rows):
        whole = number < len(rows) - 1
        if number > 0 and " " in row:
            found = moment_fault(kind, row, before)
            if found is not None:
                return place + found
            before = LENGTH_OF.get(row.split(" ")[0], before)
        if number == 513 and whole:
            return place
        place += len(row) + 1
    if good < len(text) or before is None or not FORMS[kind][0].fullmatch(text):
        return good
    return None


def moment_fault(kind, row, before):
    """Where a moment's row, which may be cut short, is at fault though it has the right form."""
    sign, *parts = row.split(" ")
    if LENGTH_OF.get(sign) == before:
        return 0
    place = len(sign) + 1
    last = 0
    for number, part in enumerate(parts):
        course = COURSE_OF[kind].get(part)
        if course is not None and (kind == 2 or number > 0):
            if course <= last:
                return place
            last = course
        place += len(part) + 1
    return None
