"""turn (C1, C2)."""

import random
import unittest

from helper import (
    ALL_STOPS, KINDS, LARGEST, LENGTHS, NO_PIECES, PIECES, TOO_LONG, Case, codes, counted, piece_text, some_real_piece,
)
from lutesigns.tabs import judge, line, turn

NO_KINDS = (3, 4, 255, 2147483646, 2147483647)


class Turned(Case):
    def turn_all(self, piece):
        texts = [piece_text(kind, piece) for kind in KINDS]
        for first in KINDS:
            for second in KINDS:
                there = turn(second, codes(texts[first]))
                self.assertEqual(there, counted(texts[second]), (first, second))
                self.assertEqual(turn(first, there[1:]), counted(texts[first]), (first, second))

    def test_as_written_out(self):
        texts = (
            "french\n|\nq. a.c..q a 7\n ......\n|\n ...... //a\nx bcdefg /a ///a 4 5 6\n",
            "italian\n|\nq. w..2.0 7 14\n ......\n|\n ...... 9\nx 654321 8 10 11 12 13\n",
            "german\n|\nq. 5 h P -7 -14\n .\n|\n -9\nx e i n r x F -8 -10 -11 -12 -13\n",
        )
        for first in KINDS:
            for second in KINDS:
                self.assertEqual(turn(second, codes(texts[first])), counted(texts[second]))

    def test_pieces(self):
        for piece in PIECES:
            self.turn_all(piece)

    def test_every_stop_alone(self):
        for course, fret in ALL_STOPS:
            self.turn_all([(16, {course: fret})])

    def test_every_length_behind_every_other(self):
        for first in LENGTHS:
            self.turn_all([(length, {2: 2}) for second in LENGTHS for length in (first, second)])

    def test_every_set_of_basses(self):
        for some in range(256):
            stops = {course: 0 for course in range(7, 15) if some >> (course - 7) & 1}
            self.turn_all([(32, stops), (32, {3: 4, **stops})])

    def test_every_set_of_stopped_courses(self):
        for some in range(64):
            self.turn_all([(2, {course: course + 4 for course in range(1, 7) if some >> (course - 1) & 1})])

    def test_lines_stay(self):
        dice = random.Random(77)
        for often in range(60):
            piece = some_real_piece(dice, 12)
            for first in KINDS:
                t = codes(piece_text(first, piece))
                for second in KINDS:
                    there = turn(second, t)[1:]
                    self.assertEqual(judge(there), judge(t))
                    for number in range(len(piece)):
                        self.assertEqual(line(number, there), line(number, t))

    def test_pieces_by_dice(self):
        dice = random.Random(78)
        for often in range(200):
            self.turn_all(some_real_piece(dice, 20))

    def test_no_text_is_too_long_to_be_turned(self):
        """The largest piece has in each kind the longest lines there are, and still stays below the bound."""
        for first in KINDS:
            sizes = [turn(second, codes(piece_text(first, LARGEST)))[0] for second in KINDS]
            self.assertEqual(sizes, [7 + 512 * 32, 8 + 512 * 31, 7 + 512 * 54])
            self.assertLess(max(sizes), 65536)


class Refused(Case):
    def test_no_kind(self):
        for first in KINDS:
            for piece in PIECES[:3]:
                for kind in NO_KINDS:
                    self.assertEqual(turn(kind, codes(piece_text(first, piece))), [-1])

    def test_too_long_comes_first(self):
        for t in TOO_LONG:
            for kind in KINDS + NO_KINDS:
                self.assertEqual(turn(kind, t), [-2])

    def test_no_piece_comes_before_no_kind(self):
        for t in NO_PIECES:
            for kind in KINDS + NO_KINDS:
                self.assertEqual(turn(kind, t), [-6])


if __name__ == "__main__":
    unittest.main()
