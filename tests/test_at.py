"""at (C3)."""

import random
import unittest

from helper import BAR, KINDS, LARGEST, LENGTHS, NO_PIECES, PIECES, TOO_LONG, Case, codes, piece_text, some_real_piece
from lutesigns.tabs import at, line, sizes

BEHIND = (0, 1, 95, 96, 36864, 49152, 2147483646, 2147483647)


def lasting(piece):
    """The number of the line that lasts, unit by unit."""
    return [number for number, line in enumerate(piece) if line is not BAR for unit in range(line[0])]


class Found(Case):
    def find(self, piece, units=None):
        lines = lasting(piece)
        for kind in KINDS:
            t = codes(piece_text(kind, piece))
            for unit in range(len(lines)) if units is None else units:
                self.assertEqual(at(unit, t), [lines[unit]], (kind, unit))
            for unit in (len(lines), len(lines) + 1, 2147483647):
                self.assertEqual(at(unit, t), [-4], (kind, unit))

    def test_as_written_out(self):
        for text in (
            "french\n|\nt a.....\n|\n b.....\n|\n|\nx ......\n|\n",
            "italian\n|\nt .....0\n|\n .....1\n|\n|\nx ......\n|\n",
            "german\n|\nt 5\n|\n e\n|\n|\nx .\n|\n",
        ):
            found = [at(unit, codes(text)) for unit in range(7)]
            self.assertEqual(found, [[1], [1], [3], [3], [6], [-4], [-4]])

    def test_one_moment(self):
        for length in LENGTHS:
            self.find([(length, {1: 0})])

    def test_bars_before_between_and_behind(self):
        self.find([BAR, BAR, (3, {1: 0}), BAR, (3, {}), (1, {2: 2}), BAR, BAR, (12, {}), BAR])

    def test_unit_0(self):
        for bars in (0, 1, 2, 511):
            for kind in KINDS:
                self.assertEqual(at(0, codes(piece_text(kind, [BAR] * bars + [(1, {})]))), [bars])

    def test_first_and_last_units_of_every_length(self):
        piece = [line for length in LENGTHS for line in ((length, {}), (length, {3: 3}), BAR)]
        lines = lasting(piece)
        edges = [unit for unit in range(len(lines)) if lines[unit - 1:unit] != lines[unit:unit + 1]]
        self.find(piece, edges + [unit - 1 for unit in edges if unit > 0] + [len(lines) - 1])

    def test_the_longest_piece(self):
        self.find([(96, {1: 0})] * 512, (0, 95, 96, 49055, 49056, 49151))
        self.find(LARGEST, (0, 95, 96, 143, 144, 36815, 36816, 36863))

    def test_pieces_by_dice(self):
        dice = random.Random(12)
        for often in range(40):
            piece = some_real_piece(dice, 12)
            lines = lasting(piece)
            self.find(piece, [0, len(lines) - 1] + [dice.randrange(len(lines)) for often in range(8)])

    def test_what_it_finds_is_a_moment(self):
        for piece in PIECES[:4]:
            for kind in KINDS:
                t = codes(piece_text(kind, piece))
                for unit in range(0, sizes(t)[4], 5):
                    self.assertGreater(line(at(unit, t)[0], t)[0], 0)


class Refused(Case):
    def test_behind_the_last(self):
        for piece in PIECES:
            for kind in KINDS:
                t = codes(piece_text(kind, piece))
                units = sizes(t)[4]
                self.assertGreaterEqual(at(units - 1, t)[0], 0)
                for unit in (units, units + 1, 49152, 2147483646, 2147483647):
                    self.assertEqual(at(unit, t), [-4])

    def test_too_long_comes_first(self):
        for t in TOO_LONG:
            for unit in BEHIND:
                self.assertEqual(at(unit, t), [-2])

    def test_no_piece_comes_before_no_moment(self):
        for t in NO_PIECES:
            for unit in BEHIND:
                self.assertEqual(at(unit, t), [-6])


if __name__ == "__main__":
    unittest.main()
