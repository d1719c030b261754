"""judge and sizes of texts that are pieces' (C1, C3)."""

import unittest

from helper import (
    ALL_STOPS, BAR, FRENCH_BASSES, FRENCH_FRETS, GERMAN_BASSES, GERMAN_ROWS, ITALIAN_BASSES, ITALIAN_FRETS, KINDS,
    LENGTHS, WORDS, Case, codes, piece_sizes, piece_text,
)
from lutesigns.reading import read_piece
from lutesigns.tabs import judge, sizes


class Accepting(Case):
    def accept(self, text, lines, five):
        self.assertEqual(judge(codes(text)), [lines], text)
        self.assertEqual(sizes(codes(text)), five, text)

    def accept_piece(self, piece):
        for kind in KINDS:
            self.accept(piece_text(kind, piece), len(piece), piece_sizes(kind, piece))


class Ordinary(Accepting):
    def test_french(self):
        text = "french\nq a.c..d a 7\n|\n .b....\ne. ...... ///a 4\n|\n"
        self.accept(text, 5, [0, 3, 2, 8, 44])

    def test_italian(self):
        text = "italian\nh 0..3.w\n x.....\n|\ns. 012345 7 10 14\n"
        self.accept(text, 4, [1, 3, 1, 13, 70])

    def test_german(self):
        text = "german\nx 5 4 3 2 1 + -7 -14\n .\n|\nw. 999 && z A\n|\nw e\n"
        self.accept(text, 6, [2, 4, 2, 13, 162])

    def test_the_documents_own_crossings(self):
        piece = read_piece(codes("german\nq e a\n 5 aa\n"))
        self.assertEqual(piece.lines, [(16, [(1, 1), (5, 1)]), (16, [(1, 0), (5, 6)])])

    def test_one_piece_in_three_kinds(self):
        piece = [(16, {1: 0, 6: 3}), BAR, (16, {2: 15, 9: 0}), (24, {}), BAR, BAR, (1, {7: 0})]
        self.accept_piece(piece)

    def test_bars_before_the_first_moment(self):
        self.accept_piece([BAR, BAR, (4, {3: 2})])


class Edges(Accepting):
    def test_512_lines(self):
        self.accept_piece([(8, {1: 0})] * 512)
        self.accept_piece([BAR] * 511 + [(96, {14: 0})])

    def test_one_line(self):
        self.accept_piece([(1, {})])

    def test_the_largest_piece(self):
        stops = {course: 15 if course < 7 else 0 for course in range(1, 15)}
        piece = [((96, 48)[number % 2], stops) for number in range(512)]
        self.accept_piece(piece)
        self.assertEqual(sizes(codes(piece_text(2, piece))), [2, 512, 0, 7168, 36864])

    def test_every_length(self):
        told = {
            "x": 1, "t": 2, "s": 4, "e": 8, "q": 16, "h": 32, "w": 64,
            "t.": 3, "s.": 6, "e.": 12, "q.": 24, "h.": 48, "w.": 96,
        }
        for sign, length in told.items():
            for kind, stops in enumerate(("......", "......", ".")):
                text = "%s\n%s %s\n %s\n" % (WORDS[kind], sign, stops, stops)
                self.accept(text, 2, [kind, 2, 0, 0, 2 * length])

    def test_every_length_behind_every_other(self):
        for first in LENGTHS:
            self.accept_piece([(length, {2: 2}) for other in LENGTHS if other != first for length in (first, other)])

    def test_a_length_goes_on_past_bars(self):
        self.accept("french\nq. a.....\n|\n|\n b.....\n|\n c.....\n", 6, [0, 3, 3, 3, 72])

    def test_a_length_comes_back(self):
        self.accept("german\nq .\nh .\nq .\n", 3, [2, 3, 0, 0, 64])

    def test_moments_with_no_stop_up_to_14(self):
        for many in range(15):
            self.accept_piece([(2, {course: 0 for course in range(1, many + 1)})])
            self.accept_piece([(2, {course: 0 for course in range(15 - many, 15)})])

    def test_every_set_of_basses(self):
        for some in range(256):
            stops = {course: 0 for course in range(7, 15) if some >> (course - 7) & 1}
            self.accept_piece([(32, stops)])
            self.accept_piece([(32, {4: 5, **stops})])


class EveryStop(Case):
    def lines(self, text):
        self.assertEqual(judge(codes(text)), [1], text)
        return read_piece(codes(text)).lines

    def test_each_alone_is_told_as_it_stands(self):
        for kind in KINDS:
            for course, fret in ALL_STOPS:
                text = piece_text(kind, [(16, {course: fret})])
                self.assertEqual(self.lines(text), [(16, [(course, fret)])], text)
                self.assertEqual(sizes(codes(text)), [kind, 1, 0, 1, 16], text)

    def test_french_rows(self):
        for course in range(1, 7):
            for fret, letter in enumerate("abcdefghiklmnopq"):
                row = "." * (course - 1) + letter + "." * (6 - course)
                self.assertEqual(self.lines("french\nx " + row + "\n"), [(1, [(course, fret)])])

    def test_italian_rows(self):
        for course in range(1, 7):
            for fret, letter in enumerate("0123456789xyzvuw"):
                row = "." * (6 - course) + letter + "." * (course - 1)
                self.assertEqual(self.lines("italian\nx " + row + "\n"), [(1, [(course, fret)])])

    def test_stops_are_told_by_courses(self):
        told = [(16, [(1, 5), (2, 4), (4, 2), (5, 1), (6, 0), (7, 0), (14, 0)])]
        self.assertEqual(self.lines("french\nq fe.cba a 7\n"), told)
        self.assertEqual(self.lines("italian\nq 012.45 7 14\n"), told)
        self.assertEqual(self.lines("german\nq 9 t g a + -7 -14\n"), told)

    def test_german_crossings(self):
        signs = "abcdefghiklmnopqrstvxyz&9"
        for course in range(1, 6):
            self.assertEqual(self.lines("german\nx %d\n" % (6 - course)), [(1, [(course, 0)])])
            for fret in range(1, 16):
                sign = signs[5 * ((fret - 1) % 5) + 5 - course] * ((fret - 1) // 5 + 1)
                self.assertEqual(self.lines("german\nx " + sign + "\n"), [(1, [(course, fret)])])

    def test_the_tests_own_tables(self):
        self.assertEqual([len(FRENCH_FRETS), len(ITALIAN_FRETS)], [16, 16])
        self.assertEqual([len(row) for row in GERMAN_ROWS.values()], [16] * 6)
        self.assertEqual([len(FRENCH_BASSES), len(ITALIAN_BASSES), len(GERMAN_BASSES)], [8, 8, 8])
        self.assertEqual(len(ALL_STOPS), 104)


class Calling(Case):
    TEXTS = ("french\nq a..... 7\n|\n b.....\n", "italian\nq ..... 7\n", "german\nq a e\n", "", "german\nt. 999 z\n")

    def test_nothing_handed_in_is_changed(self):
        for text in self.TEXTS:
            t = codes(text)
            judge(t)
            sizes(t)
            self.assertEqual(t, codes(text))

    def test_nothing_is_kept(self):
        first = [(judge(codes(text)), sizes(codes(text))) for text in self.TEXTS]
        for answer in first:
            answer[0][0] = answer[1][0] = 99
        again = [(sizes(codes(text)), judge(codes(text))) for text in reversed(self.TEXTS)]
        self.assertEqual(
            again,
            [
                ([2, 1, 0, 2, 3], [1]), ([-6], [-6, 0]), ([-6], [-6, 11]),
                ([-6], [-6, 15]), ([0, 2, 1, 3, 32], [3]),
            ],
        )

    def test_whole_numbers_in_lists(self):
        for text in self.TEXTS:
            for answer in (judge(codes(text)), sizes(codes(text))):
                self.assertIs(type(answer), list)
                self.assertEqual({type(number) for number in answer}, {int})


if __name__ == "__main__":
    unittest.main()
