"""cut (C1, C3, C4)."""

import random
import unittest

from helper import (
    ALL_LENGTHS, BAR, KINDS, LENGTHS, NO_PIECES, PIECES, TOO_LONG, Case, codes, counted, piece_text, some_real_piece,
)
from lutesigns.tabs import cut, judge, line

PIECE = [BAR, BAR, (24, {1: 3}), BAR, (24, {}), (12, {2: 2, 8: 0}), (12, {6: 0, 7: 0}), BAR, BAR, (24, {14: 0}), BAR]
HUGE = (2147483646, 2147483647)


class Cutting(Case):
    def check(self, piece, i, j):
        for kind in KINDS:
            answer = cut(i, j, codes(piece_text(kind, piece)))
            if i >= j or j > len(piece):
                self.assertEqual(answer, [-4], (kind, i, j))
            elif all(one is BAR for one in piece[i:j]):
                self.assertEqual(answer, [-3], (kind, i, j))
            else:
                self.assertEqual(answer, counted(piece_text(kind, piece[i:j])), (kind, i, j))

    def test_as_written_out(self):
        t = codes("french\n|\nq. a.c..q a 7\n b.....\n|\n ...... //a\nx c.....\n")
        self.assertEqual(cut(1, 3, t), counted("french\nq. a.c..q a 7\n b.....\n"))
        self.assertEqual(cut(2, 5, t), counted("french\nq. b.....\n|\n ...... //a\n"))
        self.assertEqual(cut(3, 6, t), counted("french\n|\nq. ...... //a\nx c.....\n"))
        self.assertEqual(cut(3, 4, t), [-3])
        t = codes("italian\nq 0.....\n 1.....\n|\n 2.....\n")
        self.assertEqual(cut(1, 4, t), counted("italian\nq 1.....\n|\n 2.....\n"))
        t = codes("german\nq a\n b\n|\n c\n")
        self.assertEqual(cut(2, 4, t), counted("german\n|\nq c\n"))

    def test_every_cut(self):
        for piece in (PIECE, [(1, {})], [BAR, (1, {})], [(1, {}), BAR]):
            for i in range(len(piece) + 3):
                for j in range(len(piece) + 3):
                    self.check(piece, i, j)

    def test_all_lines(self):
        for piece in PIECES:
            for kind in KINDS:
                self.assertEqual(cut(0, len(piece), codes(piece_text(kind, piece))), counted(piece_text(kind, piece)))

    def test_one_line(self):
        for number in range(len(ALL_LENGTHS)):
            self.check(ALL_LENGTHS, number, number + 1)

    def test_begins_where_no_length_was_written(self):
        for length in LENGTHS:
            piece = [(length, {1: 0}), (length, {2: 0}), BAR, BAR, (length, {3: 0})]
            for kind in KINDS:
                t = codes(piece_text(kind, piece))
                for i in (1, 2, 3, 4):
                    answer = cut(i, 5, t)
                    self.assertEqual(answer, counted(piece_text(kind, piece[i:])))
                    self.assertIn("\n" + LENGTHS[length] + " ", bytes(answer[1:]).decode())

    def test_bars_alone(self):
        piece = [BAR] * 3 + [(8, {})] + [BAR] * 3
        for i in range(8):
            for j in range(9):
                self.check(piece, i, j)
        for kind in KINDS:
            t = codes(piece_text(kind, piece))
            self.assertEqual([cut(0, 1, t), cut(0, 3, t), cut(4, 7, t)], [[-3]] * 3)

    def test_of_512_lines(self):
        piece = [BAR] * 511 + [(96, {14: 0})]
        for i, j in ((0, 512), (0, 511), (511, 512), (510, 512), (0, 513), (512, 513), (512, 512)):
            self.check(piece, i, j)

    def test_lines_are_told_as_before(self):
        for kind in KINDS:
            t = codes(piece_text(kind, PIECE))
            there = cut(3, 10, t)[1:]
            self.assertEqual(judge(there), [7])
            self.assertEqual([line(n, there) for n in range(7)], [line(n, t) for n in range(3, 10)])

    def test_pieces_by_dice(self):
        dice = random.Random(8)
        for often in range(80):
            piece = some_real_piece(dice, 15)
            for again in range(4):
                self.check(piece, dice.randint(0, len(piece)), dice.randint(0, len(piece) + 1))


class Refused(Case):
    def test_no_such_lines(self):
        for kind in KINDS:
            t = codes(piece_text(kind, PIECE))
            many = len(PIECE)
            for i, j in ((0, 0), (5, 5), (many, many), (3, 2), (many, 0), (many, many + 1), (0, many + 1), (2, many + 1)):
                self.assertEqual(cut(i, j, t), [-4], (i, j))
            for far in HUGE:
                for i, j in ((0, far), (far, 0), (far, 5), (far, far), (many, far), (5, far)):
                    self.assertEqual(cut(i, j, t), [-4], (i, j))
            self.assertEqual(cut(HUGE[0], HUGE[1], t), [-4])

    def test_no_such_lines_comes_before_no_moment(self):
        for kind in KINDS:
            t = codes(piece_text(kind, [(2, {}), BAR, BAR]))
            self.assertEqual(cut(1, 3, t), [-3])
            for i, j in ((1, 4), (1, 1), (2, 1), (2, 2147483647)):
                self.assertEqual(cut(i, j, t), [-4])

    def test_too_long_comes_first(self):
        for t in TOO_LONG:
            for i, j in ((0, 1), (1, 0), (0, 0), (0, HUGE[1]), HUGE):
                self.assertEqual(cut(i, j, t), [-2])

    def test_no_piece_comes_before_no_such_lines(self):
        for t in NO_PIECES:
            for i, j in ((0, 1), (1, 0), (0, 0), (0, HUGE[1]), HUGE):
                self.assertEqual(cut(i, j, t), [-6])


if __name__ == "__main__":
    unittest.main()
