"""sign (C1, C3)."""

import unittest

from helper import (
    ALL_STOPS, FRENCH_BASSES, FRENCH_FRETS, ITALIAN_BASSES, ITALIAN_FRETS, KINDS, Case, codes, counted, german_sign,
    piece_text,
)
from lutesigns.tabs import line, sign

HUGE = (17, 255, 65536, 2147483646, 2147483647)


def written(kind, course, fret):
    """The sign by the tests' own tables."""
    if kind == 2:
        return german_sign(course, fret)
    if course > 6:
        return (FRENCH_BASSES, ITALIAN_BASSES)[kind][course]
    return (FRENCH_FRETS, ITALIAN_FRETS)[kind][fret]


class Signs(Case):
    def test_as_written_out(self):
        for kind, course, fret, text in (
            (0, 1, 0, "a"), (0, 6, 9, "k"), (0, 3, 15, "q"), (0, 7, 0, "a"), (0, 8, 0, "/a"), (0, 9, 0, "//a"),
            (0, 10, 0, "///a"), (0, 11, 0, "4"), (0, 12, 0, "5"), (0, 13, 0, "6"), (0, 14, 0, "7"),
            (1, 1, 0, "0"), (1, 6, 9, "9"), (1, 2, 10, "x"), (1, 2, 11, "y"), (1, 2, 12, "z"), (1, 2, 13, "v"),
            (1, 2, 14, "u"), (1, 3, 15, "w"), (1, 7, 0, "7"), (1, 10, 0, "10"), (1, 14, 0, "14"),
            (2, 1, 0, "5"), (2, 5, 0, "1"), (2, 5, 1, "a"), (2, 1, 1, "e"), (2, 5, 6, "aa"), (2, 1, 5, "9"),
            (2, 2, 5, "&"), (2, 1, 15, "999"), (2, 6, 0, "+"), (2, 6, 1, "A"), (2, 6, 10, "K"), (2, 6, 15, "P"),
            (2, 7, 0, "-7"), (2, 14, 0, "-14"),
        ):
            self.assertEqual(sign(kind, course, fret), counted(text), (kind, course, fret))

    def test_every_kind_course_and_fret(self):
        for kind in KINDS:
            for course in range(17):
                for fret in range(18):
                    stop = (course, fret) in ALL_STOPS
                    answer = counted(written(kind, course, fret)) if stop else [0]
                    self.assertEqual(sign(kind, course, fret), answer, (kind, course, fret))

    def test_it_stands_so_among_the_stops(self):
        for course, fret in ALL_STOPS:
            for kind in KINDS:
                text = bytes(sign(kind, course, fret)[1:]).decode()
                if kind == 2:
                    row = text
                elif course > 6:
                    row = "...... " + text
                else:
                    row = "." * (course - 1) + text + "." * (6 - course)
                    row = row if kind == 0 else row[::-1]
                t = codes(piece_text(kind, []) + "q " + row + "\n")
                self.assertEqual(line(0, t), [16, 1, course, fret])

    def test_no_two_german_stops_have_one_sign(self):
        signs = [tuple(sign(2, course, fret)) for course, fret in ALL_STOPS]
        self.assertEqual(len(set(signs)), len(ALL_STOPS))

    def test_far_courses_and_frets(self):
        for kind in KINDS:
            for far in HUGE:
                for near in range(16):
                    self.assertEqual(sign(kind, far, near), [0])
                    self.assertEqual(sign(kind, near, far), [0])
                self.assertEqual(sign(kind, far, far), [0])


class Refused(Case):
    def test_no_kind(self):
        for kind in (3, 4) + HUGE:
            for course, fret in ALL_STOPS:
                self.assertEqual(sign(kind, course, fret), [-1])

    def test_no_kind_comes_before_no_stop(self):
        for kind in (3, 4) + HUGE:
            for course, fret in ((0, 0), (0, 3), (1, 16), (7, 1), (14, 15), (15, 0), (2147483647, 2147483647)):
                self.assertEqual(sign(kind, course, fret), [-1])


if __name__ == "__main__":
    unittest.main()
