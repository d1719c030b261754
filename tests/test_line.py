"""line (C1, C3)."""

import random
import unittest

from helper import (
    ALL_STOPS, BAR, FOURTEEN, KINDS, LENGTHS, NO_PIECES, PIECES, TOO_LONG, Case, codes, line_told, piece_text,
    some_real_piece,
)
from lutesigns.tabs import line

BEHIND = (0, 1, 2, 511, 512, 65536, 2147483646, 2147483647)


class Told(Case):
    def tell_all(self, piece, numbers=None):
        for kind in KINDS:
            t = codes(piece_text(kind, piece))
            for number in range(len(piece)) if numbers is None else numbers:
                self.assertEqual(line(number, t), line_told(piece[number]), (kind, number))

    def test_as_written_out(self):
        for text in (
            "french\n|\nq. a.c..q a 7\n ......\n|\n ...... //a\n",
            "italian\n|\nq. w..2.0 7 14\n ......\n|\n ...... 9\n",
            "german\n|\nq. 5 h P -7 -14\n .\n|\n -9\n",
        ):
            t = codes(text)
            self.assertEqual(line(0, t), [0])
            self.assertEqual(line(1, t), [24, 5, 1, 0, 3, 2, 6, 15, 7, 0, 14, 0])
            self.assertEqual(line(2, t), [24, 0])
            self.assertEqual(line(3, t), [0])
            self.assertEqual(line(4, t), [24, 1, 9, 0])
            self.assertEqual(line(5, t), [-4])

    def test_every_line_of_small_pieces(self):
        for piece in PIECES:
            if len(piece) < 150:
                self.tell_all(piece)

    def test_lines_of_large_pieces(self):
        for piece in PIECES:
            if len(piece) == 512:
                self.tell_all(piece, (0, 1, 255, 510, 511))

    def test_bars(self):
        piece = [BAR, (4, {1: 1}), BAR, BAR, (4, {}), BAR]
        self.tell_all(piece)
        for kind in KINDS:
            told = [line(number, codes(piece_text(kind, piece))) for number in range(6)]
            self.assertEqual(told, [[0], [4, 1, 1, 1], [0], [0], [4, 0], [0]])

    def test_every_stop(self):
        for course, fret in ALL_STOPS:
            for kind in KINDS:
                t = codes(piece_text(kind, [(16, {course: fret})]))
                self.assertEqual(line(0, t), [16, 1, course, fret])

    def test_14_stops(self):
        told = [2, 14, 1, 0, 2, 15, 3, 7, 4, 10, 5, 1, 6, 12]
        told = told + [number for course in range(7, 15) for number in (course, 0)]
        for kind in KINDS:
            self.assertEqual(line(0, codes(piece_text(kind, [(2, FOURTEEN)]))), told)

    def test_every_length_also_where_its_sign_is_not_written(self):
        for length in LENGTHS:
            piece = [(length, {1: 0}), (length, {2: 0}), BAR, (length, {})]
            for kind in KINDS:
                told = [line(number, codes(piece_text(kind, piece))) for number in range(4)]
                self.assertEqual(told, [[length, 1, 1, 0], [length, 1, 2, 0], [0], [length, 0]])

    def test_pieces_by_dice(self):
        dice = random.Random(31)
        for often in range(150):
            self.tell_all(some_real_piece(dice))


class Refused(Case):
    def test_behind_the_last_line(self):
        for piece in PIECES:
            for kind in KINDS:
                t = codes(piece_text(kind, piece))
                for number in (len(piece) - 1, len(piece), len(piece) + 1, 2147483647):
                    self.assertEqual(line(number, t) == [-4], number >= len(piece))

    def test_far_behind(self):
        for kind in KINDS:
            t = codes(piece_text(kind, [(1, {})]))
            for number in BEHIND[1:]:
                self.assertEqual(line(number, t), [-4])

    def test_too_long_comes_first(self):
        for t in TOO_LONG:
            for number in BEHIND:
                self.assertEqual(line(number, t), [-2])

    def test_no_piece_comes_before_no_line(self):
        for t in NO_PIECES:
            for number in BEHIND:
                self.assertEqual(line(number, t), [-6])


if __name__ == "__main__":
    unittest.main()
