"""join (C1, C3, C4)."""

import random
import unittest

from helper import (
    BAR, FOURTEEN, KINDS, LARGEST, LENGTHS, NO_PIECES, PIECES, TOO_LONG, Case, codes, counted, piece_text,
    some_real_piece,
)
from lutesigns.tabs import cut, join, judge, line, same, sizes

FINE = codes(piece_text(1, [(16, {1: 3}), BAR]))


def has_moment(piece):
    return any(one is not BAR for one in piece)


class Joined(Case):
    def check(self, piece, other):
        for first in KINDS:
            for second in KINDS:
                answer = join(codes(piece_text(first, piece)), codes(piece_text(second, other)))
                self.assertEqual(answer, counted(piece_text(first, piece + other)), (first, second))

    def test_as_written_out(self):
        self.assertEqual(
            join(codes("french\nq a.c..d a\n|\n"), codes("german\n|\nq 5 h C -7\nx .\n")),
            counted("french\nq a.c..d a\n|\n|\n a.c..d a\nx ......\n"))
        self.assertEqual(
            join(codes("german\nq a\nh b\n"), codes("italian\nq .1....\nh ......\n")),
            counted("german\nq a\nh b\nq a\nh .\n"))
        self.assertEqual(
            join(codes("italian\nw. 0....w 14\n"), codes("french\nw. .....a\n")),
            counted("italian\nw. 0....w 14\n 0.....\n"))

    def test_every_two_kinds(self):
        for piece in PIECES[:4]:
            for other in PIECES[:4]:
                self.check(piece, other)

    def test_every_two_lengths(self):
        for one in LENGTHS:
            for two in LENGTHS:
                self.check([(one, {1: 0})], [(two, {2: 1, 9: 0})])

    def test_the_length_that_counts_is_the_last(self):
        self.check([(4, {}), (8, {})], [(8, {}), (4, {})])
        self.check([(4, {}), (8, {})], [(4, {}), (8, {})])
        self.check([(8, {}), (4, {}), BAR], [BAR, (8, {}), BAR, (8, {})])

    def test_bars_at_the_seam(self):
        for behind in range(3):
            for before in range(3):
                for length in (16, 24):
                    self.check([(16, FOURTEEN)] + [BAR] * behind, [BAR] * before + [(length, {3: 4})])

    def test_512_lines_together(self):
        for many in (1, 2, 255, 256, 511):
            piece, other = [(8, {1: 0})] * many, [(8, {2: 0})] * (512 - many)
            self.check(piece, other)
            self.check([(1, {})] + [BAR] * (many - 1), [BAR] * (511 - many) + [(1, {})])
        self.check(LARGEST[:256], LARGEST[256:])

    def test_the_same_list(self):
        for piece in PIECES[:3]:
            for kind in KINDS:
                t = codes(piece_text(kind, piece))
                self.assertEqual(join(t, t), counted(piece_text(kind, piece + piece)))
                self.assertEqual(t, codes(piece_text(kind, piece)))

    def test_cut_in_two_and_joined_again(self):
        dice = random.Random(64)
        for often in range(60):
            piece = some_real_piece(dice, 12)
            for kind in KINDS:
                t = codes(piece_text(kind, piece))
                for seam in range(1, len(piece)):
                    if has_moment(piece[:seam]) and has_moment(piece[seam:]):
                        parts = cut(0, seam, t)[1:], cut(seam, len(piece), t)[1:]
                        self.assertEqual(join(*parts), [len(t)] + t)

    def test_lines_are_told_as_before(self):
        dice = random.Random(65)
        for often in range(40):
            t = codes(piece_text(often % 3, some_real_piece(dice)))
            u = codes(piece_text(often // 3 % 3, some_real_piece(dice)))
            there = join(t, u)[1:]
            many = judge(t)[0]
            self.assertEqual(judge(there), [many + judge(u)[0]])
            self.assertEqual(sizes(there), [often % 3] + [a + b for a, b in zip(sizes(t)[1:], sizes(u)[1:])])
            self.assertEqual([line(n, there) for n in range(many)], [line(n, t) for n in range(many)])
            self.assertEqual([line(many + n, there) for n in range(judge(u)[0])], [line(n, u) for n in range(judge(u)[0])])
            self.assertEqual(same(cut(many, judge(there)[0], there)[1:], u), [1])

    def test_pieces_by_dice(self):
        dice = random.Random(66)
        for often in range(60):
            self.check(some_real_piece(dice), some_real_piece(dice))


class Refused(Case):
    def test_513_lines_together(self):
        for many in (1, 2, 256, 257, 511, 512):
            piece, other = [(8, {1: 0})] * many, [BAR] * (512 - many) + [(2, {})]
            for first in KINDS:
                for second in KINDS:
                    self.assertEqual(join(codes(piece_text(first, piece)), codes(piece_text(second, other))), [-3])

    def test_1024_lines_together(self):
        t = codes(piece_text(2, LARGEST))
        self.assertEqual(join(t, t), [-3])

    def test_too_long_comes_first(self):
        for long in TOO_LONG:
            self.assertEqual(join(long, FINE), [-2])
            self.assertEqual(join(FINE, long), [-2])
            self.assertEqual(join(long, long), [-2])
            for none in NO_PIECES:
                self.assertEqual(join(long, none), [-2])
                self.assertEqual(join(none, long), [-2])

    def test_the_first_is_none(self):
        full = codes(piece_text(0, [(8, {1: 0})] * 512))
        for none in NO_PIECES:
            self.assertEqual(join(none, FINE), [-6])
            self.assertEqual(join(none, full), [-6])
            self.assertEqual(join(none, none), [-6])
            for other in NO_PIECES:
                self.assertEqual(join(none, other), [-6])

    def test_the_second_is_none(self):
        full = codes(piece_text(0, [(8, {1: 0})] * 512))
        for none in NO_PIECES:
            self.assertEqual(join(FINE, none), [-8])
            self.assertEqual(join(full, none), [-8])

    def test_the_second_needs_a_moment_and_a_length_of_its_own(self):
        for kind, stops in enumerate(("......", "......", ".")):
            word = piece_text(kind, [])
            self.assertEqual(join(FINE, codes(word + "|\n")), [-8])
            self.assertEqual(join(FINE, codes(word + " " + stops + "\n")), [-8])


if __name__ == "__main__":
    unittest.main()
