"""The promises over the whole program: all calls together, of pieces and of texts near to pieces' texts."""

import itertools
import random
import unittest

from helper import BAR, KINDS, Case, codes, mutated, piece_text, some_real_piece
from lutesigns.tabs import at, cut, join, judge, line, same, sign, sizes, turn, up


def texts_by_dice(seed, many):
    """Texts of all kinds, most of them changed at some place."""
    dice = random.Random(seed)
    for number in range(many):
        text = piece_text(number % 3, some_real_piece(dice, 6))
        for again in range(dice.choice((0, 1, 1, 2))):
            text = mutated(dice, text)
        yield codes(text)


def short_texts():
    """Every short run of some signs where a moment's stops stand, and where a moment begins."""
    for signs in itertools.product("aeP5-1 .+7", repeat=3):
        yield codes("german\nx " + "".join(signs) + "\n")
    for signs in itertools.product("a/47 \n|", repeat=3):
        yield codes("french\nx ......" + "".join(signs) + "\n")
    for signs in itertools.product("1079 \n|", repeat=3):
        yield codes("italian\nx ......" + "".join(signs) + "\n")
    for signs in itertools.product("xt. |\n", repeat=4):
        yield codes("german\nt .\n" + "".join(signs) + ".\n")


def told(t):
    """All lines as the call line tells them."""
    return [tuple(line(number, t)) for number in range(judge(t)[0])]


class OneToOne(Case):
    """C1 and C2."""

    def check(self, t):
        first = judge(t)
        if first[0] < 0:
            self.assertEqual([first[0], len(first)], [-6, 2])
            self.assertLessEqual(first[1], len(t))
            self.refused(t)
            return False
        kind = sizes(t)[0]
        self.assertEqual(turn(kind, t), [len(t)] + t)
        for other in KINDS:
            there = turn(other, t)
            self.assertEqual(there[0], len(there) - 1)
            self.assertEqual(sizes(there[1:]), [other] + sizes(t)[1:])
            self.assertEqual(told(there[1:]), told(t))
            self.assertEqual(same(there[1:], t), [1])
            self.assertEqual(turn(kind, there[1:]), [len(t)] + t)
        return True

    def refused(self, t):
        fine = codes("german\nx .\n")
        for answer in (sizes(t), line(0, t), turn(0, t), same(t, fine), at(0, t), up(0, t), cut(0, 1, t), join(t, fine)):
            self.assertEqual(answer, [-6])
        self.assertEqual([same(fine, t), join(fine, t)], [[-8], [-8]])

    def test_texts_by_dice(self):
        found = [self.check(t) for t in texts_by_dice(2026, 1500)]
        self.assertGreater(sum(found), 300)
        self.assertGreater(len(found) - sum(found), 300)

    def test_short_texts(self):
        found = [self.check(t) for t in short_texts()]
        self.assertGreater(sum(found), 20)

    def test_what_is_told_makes_one_text(self):
        texts = {}
        for t in itertools.chain(texts_by_dice(7, 1500), short_texts()):
            if judge(t)[0] > 0:
                key = (sizes(t)[0], tuple(told(t)))
                self.assertEqual(texts.setdefault(key, t), t)


class AsTheyStand(Case):
    """C3."""

    def test_all_calls_tell_one_piece(self):
        dice = random.Random(3)
        for number in range(120):
            t = codes(piece_text(number % 3, some_real_piece(dice, 10)))
            lines = told(t)
            moments = [one for one in lines if one != (0,)]
            stops = sum(one[1] for one in moments)
            units = sum(one[0] for one in moments)
            self.assertEqual(sizes(t), [number % 3, len(moments), len(lines) - len(moments), stops, units])
            begin = 0
            for place, one in enumerate(lines):
                if one != (0,):
                    self.assertEqual([at(begin, t), at(begin + one[0] - 1, t)], [[place], [place]])
                begin += one[0]
            self.assertEqual(at(begin, t), [-4])

    def test_signs_stand_in_the_text(self):
        dice = random.Random(4)
        for number in range(120):
            piece = [one for one in some_real_piece(dice, 10) if one is not BAR]
            t = codes(piece_text(2, piece))
            rows = bytes(t).decode().split("\n")[1:-1]
            for row, one in zip(rows, told(t), strict=True):
                signs = [bytes(sign(2, *stop)[1:]).decode() for stop in zip(one[2::2], one[3::2])]
                self.assertEqual(row.split(" ")[1:], signs or ["."])


class ThereAndBack(Case):
    """C4."""

    def test_up_and_down_again(self):
        for t in texts_by_dice(17, 200):
            if judge(t)[0] > 0:
                for by in range(-15, 16):
                    there = up(by, t)
                    if there != [-3]:
                        self.assertEqual(up(-by, there[1:]), [len(t)] + t)

    def test_up_goes_with_turn(self):
        for t in texts_by_dice(18, 200):
            if judge(t)[0] > 0:
                for by in (-2, 1, 3):
                    for kind in KINDS:
                        there = up(by, t)
                        turned = up(by, turn(kind, t)[1:])
                        self.assertEqual(turned, there if there == [-3] else turn(kind, there[1:]))

    def test_cut_and_joined(self):
        for t in texts_by_dice(19, 300):
            lines = judge(t)[0]
            for seam in range(1, lines):
                first, second = cut(0, seam, t), cut(seam, lines, t)
                if first != [-3] and second != [-3]:
                    for kind in KINDS:
                        self.assertEqual(join(first[1:], turn(kind, second[1:])[1:]), [len(t)] + t)


if __name__ == "__main__":
    unittest.main()
