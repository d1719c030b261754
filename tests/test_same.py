"""same (C1, C2, C3)."""

import random
import unittest

from helper import (
    ALL_STOPS, BAR, EVERY_STOP, FOURTEEN, KINDS, LENGTHS, NO_PIECES, PIECES, TOO_LONG, Case, codes, piece_text,
    some_real_piece,
)
from lutesigns.tabs import same, turn

PIECE = [BAR, (16, {1: 3, 6: 0, 9: 0}), (16, {}), BAR, (16, {2: 15}), (24, {4: 4}), BAR, BAR, (16, {1: 3})]
FINE = codes(piece_text(0, PIECE))


def changed(piece, number, *lines):
    """The piece with these lines in the place of one."""
    return piece[:number] + list(lines) + piece[number + 1:]


class Compared(Case):
    def compare(self, piece, other, answer):
        for first in KINDS:
            for second in KINDS:
                t, u = codes(piece_text(first, piece)), codes(piece_text(second, other))
                self.assertEqual(same(t, u), [answer], (first, second, piece, other))
                self.assertEqual(same(u, t), [answer], (first, second, piece, other))

    def test_as_written_out(self):
        one = codes("french\nq a..... 7\n|\n ....d.\n")
        two = codes("italian\nq .....0 14\n|\n .3....\n")
        three = codes("german\nq 5 -14\n|\n l\n")
        for t in (one, two, three):
            for u in (one, two, three):
                self.assertEqual(same(t, u), [1])
        self.assertEqual(same(one, codes("german\nq 5 -14\n|\n m\n")), [0])
        self.assertEqual(same(one, codes("italian\nq .....0 14\n .3....\n")), [0])

    def test_a_piece_with_itself_in_every_kind(self):
        for piece in PIECES + [PIECE]:
            self.compare(piece, piece, 1)

    def test_turned(self):
        for piece in PIECES[:5]:
            for first in KINDS:
                t = codes(piece_text(first, piece))
                for second in KINDS:
                    self.assertEqual(same(t, turn(second, t)[1:]), [1])

    def test_the_same_list(self):
        for kind in KINDS:
            t = codes(piece_text(kind, PIECE))
            self.assertEqual(same(t, t), [1])
            self.assertEqual(t, codes(piece_text(kind, PIECE)))

    def test_pieces_that_differ_throughout(self):
        for number, piece in enumerate(PIECES):
            for other in PIECES[:number]:
                self.compare(piece, other, 0)

    def test_one_length(self):
        for number, line in enumerate(PIECE):
            if line is not BAR:
                for length in LENGTHS:
                    self.compare(PIECE, changed(PIECE, number, (length, line[1])), int(length == line[0]))

    def test_all_lengths(self):
        self.compare([(16, {}), (8, {})], [(8, {}), (4, {})], 0)
        self.compare([(16, {}), (8, {})], [(8, {}), (16, {})], 0)

    def test_one_stop(self):
        stops = {1: 3, 6: 0, 9: 0}
        for course in range(1, 15):
            other = {**stops, course: 0}
            if course not in stops:
                self.compare(PIECE, changed(PIECE, 1, (16, other)), 0)
        for course in stops:
            other = {key: stops[key] for key in stops if key != course}
            self.compare(PIECE, changed(PIECE, 1, (16, other)), 0)
        self.compare([(2, FOURTEEN)], [(2, {key: FOURTEEN[key] for key in range(1, 14)})], 0)

    def test_one_fret(self):
        for course in range(1, 7):
            for fret in range(16):
                one, two = [(2, FOURTEEN)], [(2, {**FOURTEEN, course: fret})]
                self.compare(one, two, int(FOURTEEN[course] == fret))

    def test_every_stop_with_every_other(self):
        for first in KINDS:
            for one, t in enumerate([codes(piece_text(first, [moment])) for moment in EVERY_STOP]):
                for two in range(0, len(ALL_STOPS), 7):
                    u = codes(piece_text(2 - first, [EVERY_STOP[two]]))
                    self.assertEqual(same(t, u), [int(one == two)])

    def test_one_bar(self):
        for number in range(len(PIECE) + 1):
            self.compare(PIECE, PIECE[:number] + [BAR] + PIECE[number:], 0)
        for number, line in enumerate(PIECE):
            if line is BAR:
                self.compare(PIECE, changed(PIECE, number), 0)
            else:
                self.compare(PIECE, changed(PIECE, number, BAR), 0)

    def test_the_place_of_a_bar(self):
        self.compare([BAR, (1, {}), (1, {})], [(1, {}), BAR, (1, {})], 0)
        self.compare([(1, {}), BAR, (1, {})], [(1, {}), (1, {}), BAR], 0)

    def test_a_line_more_or_less(self):
        for many in range(2, len(PIECE)):
            self.compare(PIECE, PIECE[:many], 0)
        self.compare([(8, {})], [(8, {}), (8, {})], 0)
        self.compare([(8, {})] * 512, [(8, {})] * 511, 0)
        self.compare([(8, {})] * 512, [(8, {})] * 511 + [(8, {1: 0})], 0)

    def test_pieces_by_dice(self):
        dice = random.Random(5)
        for often in range(60):
            piece, other = some_real_piece(dice, 3), some_real_piece(dice, 3)
            self.compare(piece, piece, 1)
            self.compare(piece, other, int(piece == other))


class Refused(Case):
    def test_too_long_comes_first(self):
        for long in TOO_LONG:
            self.assertEqual(same(long, FINE), [-2])
            self.assertEqual(same(FINE, long), [-2])
            self.assertEqual(same(long, long), [-2])
            for none in NO_PIECES:
                self.assertEqual(same(long, none), [-2])
                self.assertEqual(same(none, long), [-2])

    def test_the_first_is_none(self):
        for none in NO_PIECES:
            self.assertEqual(same(none, FINE), [-6])
            self.assertEqual(same(none, none), [-6])
            for other in NO_PIECES:
                self.assertEqual(same(none, other), [-6])

    def test_the_second_is_none(self):
        for none in NO_PIECES:
            for kind in KINDS:
                self.assertEqual(same(codes(piece_text(kind, PIECE)), none), [-8])


if __name__ == "__main__":
    unittest.main()
