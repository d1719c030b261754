"""up (C1, C3, C4)."""

import random
import unittest

from helper import (
    ALL_LENGTHS, BAR, FOURTEEN, KINDS, LARGEST, NO_PIECES, PIECES, TOO_LONG, Case, codes, counted, piece_text,
    some_real_piece,
)
from lutesigns.tabs import line, sizes, up

MOVES = range(-15, 16)
NO_MOVES = (16, -16, 17, -17, 255, -256, 2147483646, 2147483647, -2147483647, -2147483648)


def raised(piece, by):
    """The piece by so many frets higher; None if it may not go there."""
    there = []
    for one in piece:
        if one is BAR:
            there.append(BAR)
            continue
        stops = {course: fret + by if course < 7 else fret for course, fret in one[1].items()}
        if any(fret not in range(16) for fret in stops.values()):
            return None
        there.append((one[0], stops))
    return there


class Raised(Case):
    def move(self, piece, by):
        there = raised(piece, by)
        for kind in KINDS:
            t = codes(piece_text(kind, piece))
            answer = up(by, t)
            if there is None:
                self.assertEqual(answer, [-3], (kind, by))
                continue
            self.assertEqual(answer, counted(piece_text(kind, there)), (kind, by))
            self.assertEqual(up(-by, answer[1:]), [len(t)] + t, (kind, by))

    def test_as_written_out(self):
        self.assertEqual(
            up(2, codes("french\nq a.c..d a 7\n|\n .n....\n")), counted("french\nq c.e..f a 7\n|\n .p....\n"))
        self.assertEqual(
            up(-1, codes("italian\nh 1..3.w 7 9\n|\ne x.....\n")), counted("italian\nh 0..2.u 7 9\n|\ne 9.....\n"))
        self.assertEqual(
            up(5, codes("german\nx 5 d hh A -7\n .\n|\n 1 K -14\n")),
            counted("german\nx 9 dd hhh F -7\n .\n|\n x P -14\n"))

    def test_pieces_by_every_move(self):
        for piece in PIECES[:3] + [ALL_LENGTHS]:
            for by in MOVES:
                self.move(piece, by)

    def test_every_course_and_fret_by_every_move(self):
        for by in MOVES:
            for course in range(1, 7):
                for fret in range(16):
                    self.move([(16, {course: fret})], by)

    def test_just_within_and_just_left(self):
        for by in range(1, 16):
            for kind in KINDS:
                for course in range(1, 7):
                    last = codes(piece_text(kind, [(4, {course: 15 - by, 7: 0})]))
                    self.assertEqual(up(by, last), counted(piece_text(kind, [(4, {course: 15, 7: 0})])))
                    beyond = codes(piece_text(kind, [(4, {course: 16 - by, 7: 0})]))
                    self.assertEqual(up(by, beyond), [-3])
                    first = codes(piece_text(kind, [(4, {course: by, 7: 0})]))
                    self.assertEqual(up(-by, first), counted(piece_text(kind, [(4, {course: 0, 7: 0})])))
                    below = codes(piece_text(kind, [(4, {course: by - 1, 7: 0})]))
                    self.assertEqual(up(-by, below), [-3])

    def test_one_stop_of_many_leaves(self):
        piece = [(2, {1: 3, 2: 3})] * 100 + [BAR, (2, {1: 3, 6: 4}), BAR]
        for kind in KINDS:
            self.assertEqual(up(12, codes(piece_text(kind, piece))), [-3])
            self.assertEqual(up(-4, codes(piece_text(kind, piece))), [-3])
        for by in MOVES:
            self.move(piece, by)

    def test_basses_alone_go_anywhere(self):
        piece = [(8, {course: 0 for course in range(7, 15)}), BAR] + [(4, {course: 0}) for course in range(7, 15)]
        for by in MOVES:
            for kind in KINDS:
                self.assertEqual(up(by, codes(piece_text(kind, piece))), counted(piece_text(kind, piece)))

    def test_no_stop_goes_anywhere(self):
        for piece in ([(1, {})], [BAR, (96, {}), (96, {}), BAR, (1, {})]):
            for by in MOVES:
                for kind in KINDS:
                    self.assertEqual(up(by, codes(piece_text(kind, piece))), counted(piece_text(kind, piece)))

    def test_by_nothing(self):
        for piece in PIECES:
            for kind in KINDS:
                self.assertEqual(up(0, codes(piece_text(kind, piece))), counted(piece_text(kind, piece)))

    def test_the_largest_piece(self):
        for by in (-15, -1, 0, 1):
            self.move(LARGEST, by)

    def test_only_the_stopped_courses_move(self):
        piece = [(16, {**FOURTEEN, 1: 4, 2: 8, 6: 1})]
        for kind in KINDS:
            there = up(-1, codes(piece_text(kind, piece)))[1:]
            told = line(0, there)[2:]
            self.assertEqual(told[1:12:2], [3, 7, 6, 9, 0, 0])
            self.assertEqual(told[13::2], [0] * 8)
            self.assertEqual(sizes(there), [kind, 1, 0, 14, 16])

    def test_pieces_by_dice(self):
        dice = random.Random(99)
        for often in range(80):
            piece = some_real_piece(dice, 6)
            high = [fret for one in piece if one is not BAR for course, fret in one[1].items() if course < 7]
            self.move(piece, dice.randint(-15, 15))
            self.move(piece, -min(high, default=15))
            self.move(piece, 15 - max(high, default=15))


class Refused(Case):
    def test_no_such_move(self):
        for piece in ([(1, {})], [(1, {14: 0})], [(16, {1: 7})]):
            for by in NO_MOVES:
                for kind in KINDS:
                    self.assertEqual(up(by, codes(piece_text(kind, piece))), [-1])

    def test_no_such_move_comes_before_no_result(self):
        for kind in KINDS:
            t = codes(piece_text(kind, [(4, {1: 0, 2: 15})]))
            for by in NO_MOVES:
                self.assertEqual(up(by, t), [-1])
            for by in (15, -15, 1, -1):
                self.assertEqual(up(by, t), [-3])

    def test_too_long_comes_first(self):
        for t in TOO_LONG:
            for by in (0, 1, -15) + NO_MOVES:
                self.assertEqual(up(by, t), [-2])

    def test_no_piece_comes_before_no_such_move(self):
        for t in NO_PIECES:
            for by in (0, 1, -15) + NO_MOVES:
                self.assertEqual(up(by, t), [-6])


if __name__ == "__main__":
    unittest.main()
