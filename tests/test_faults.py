"""judge and sizes of texts that are no piece's, each with the place of its fault (C1)."""

import random
import unittest

from helper import (
    ALL_STOPS, BAR, KINDS, LENGTHS, WORDS, Case, codes, fault, german_sign, mutated, piece_text, some_piece,
)
from lutesigns.tabs import judge, sizes

FULL = {
    0: "french\nq. ab.d.q a ///a 7\n|\n ...... //a\ne h.....\n",
    1: "italian\nq. 01.3.w 7 10 14\n|\n ...... 9\ne x.....\n",
    2: "german\nq. 9 ooo D -7 -10 -14\n|\n .\ne cc + -9\n",
}
NO_SIGN = "#"


class Refusing(Case):
    def refuse(self, text, place):
        self.assertEqual(judge(codes(text)), [-6, place], text)
        self.assertEqual(sizes(codes(text)), [-6], text)

    def refuse_at(self, marked):
        """The text is at fault at the mark ^, which is not of it."""
        self.refuse(marked.replace("^", ""), marked.index("^"))


class RefusingStops(Refusing):
    head = ""

    def refuse_stops(self, *many):
        for marked in many:
            self.refuse_at(self.head + marked)


class TooLong(Case):
    def test_by_bytes_alone(self):
        self.assertEqual(judge([0] * 65537), [-2])
        self.assertEqual(sizes([0] * 65537), [-2])
        self.assertEqual(judge([255] * 66000), [-2])
        self.assertEqual(judge([0] * 65536), [-6, 0])
        self.assertEqual(sizes([0] * 65536), [-6])

    def test_before_any_fault(self):
        for kind in KINDS:
            text = WORDS[kind] + "\n" + "|\n" * 512
            self.assertEqual(judge(codes(text.ljust(65536, "|"))), [-6, len(text) + 1])
            self.assertEqual(judge(codes(text.ljust(65537, "|"))), [-2])
            self.assertEqual(sizes(codes(text.ljust(65537, "|"))), [-2])


class FirstLine(Refusing):
    def test_empty(self):
        self.refuse("", 0)

    def test_ends_early(self):
        for word in WORDS:
            for size in range(len(word) + 2):
                self.refuse((word + "\n")[:size], size)

    def test_wrong_byte(self):
        for word in WORDS:
            for place in range(len(word) + 1):
                self.refuse(word[:place] + NO_SIGN + word[place + 1:] + "\n|\n", place)

    def test_other_words(self):
        for marked in (
            "^French\n", "fr^ance\n", "i^rish\n", "g^reek\n", "^\n", "^ french\n", "french^ \n", "german^s\n",
        ):
            self.refuse_at(marked)

    def test_a_carriage_return(self):
        self.refuse_at("french^\r\n|\n")


class EachPlace(Refusing):
    def test_full_texts_are_pieces(self):
        for kind in KINDS:
            self.assertEqual(judge(codes(FULL[kind])), [4])

    def test_a_byte_that_never_stands(self):
        for kind in KINDS:
            for place in range(len(FULL[kind])):
                for wrong in (NO_SIGN, "\0", "\xff", "\t", "j", "J"):
                    self.refuse(FULL[kind][:place] + wrong + FULL[kind][place + 1:], place)

    def test_a_byte_put_behind(self):
        for kind in KINDS:
            self.refuse(FULL[kind] + NO_SIGN, len(FULL[kind]))

    def test_ends_early(self):
        for kind in KINDS:
            ends = [place + 1 for place, letter in enumerate(FULL[kind]) if letter == "\n"]
            for size in range(len(FULL[kind])):
                if size in ends[1:]:
                    self.assertEqual(judge(codes(FULL[kind][:size])), [ends.index(size)])
                else:
                    self.refuse(FULL[kind][:size], size)

    def test_every_byte_at_every_place(self):
        for kind in KINDS:
            for place in range(len(FULL[kind])):
                for byte in range(256):
                    t = codes(FULL[kind])
                    t[place] = byte
                    found = fault(bytes(t).decode("latin-1"))
                    self.assertEqual(judge(t)[1:], [] if found is None else [found], bytes(t))


class Lines(Refusing):
    def test_no_moment(self):
        for word in WORDS:
            for bars in (0, 1, 2, 511, 512):
                text = word + "\n" + "|\n" * bars
                self.refuse(text, len(text))

    def test_513_lines(self):
        for kind in KINDS:
            for piece in ([(8, {1: 0})] * 513, [(8, {1: 0})] + [BAR] * 512, [BAR] * 513, [BAR] * 512 + [(8, {1: 0})]):
                start = len(piece_text(kind, piece[:512]))
                self.refuse(piece_text(kind, piece), start)
                self.refuse(piece_text(kind, piece + piece), start)

    def test_the_513th_line_is_looked_at_when_whole(self):
        text = piece_text(2, [(8, {1: 0})] * 512)
        for rest in (
            "^|\n", "^ .\n", "^e .\n", "^q 5 1\n#", "^#", "^e ",
            "|^", "|^x", "e^", "q 1 ^5\n", "q 1 ^5#", "q 5 1^", "q 5 1^#",
        ):
            self.refuse_at(text + rest)

    def test_an_empty_line(self):
        for kind in KINDS:
            self.refuse(WORDS[kind] + "\n\n", len(WORDS[kind]) + 1)
            self.refuse(FULL[kind] + "\n", len(FULL[kind]))

    def test_bars(self):
        for marked in ("|^|\n", "|^ \n", "|^", "|\n^\n", "|^ ", "^a|\n"):
            for word in WORDS:
                self.refuse_at(word + "\n" + marked)


class LengthSigns(Refusing):
    def test_first_moment_without_a_sign(self):
        for kind, stops in enumerate(("a.....", ".....0", "5")):
            self.refuse_at("%s\n^ %s\n" % (WORDS[kind], stops))
            self.refuse_at("%s\n|\n|\n^ %s\n" % (WORDS[kind], stops))
            self.refuse_at("%s\n^ #" % WORDS[kind])
            self.refuse_at("%s\n^ " % WORDS[kind])

    def test_of_the_length_before(self):
        for kind, stops in enumerate(("......", "......", ".")):
            for sign in LENGTHS.values():
                begin = "%s\n%s %s\n" % (WORDS[kind], sign, stops)
                for between in ("", "|\n", "|\n|\n|\n", " %s\n" % stops, " %s\n|\n" % stops):
                    self.refuse_at(begin + between + "^%s %s\n" % (sign, stops))
                    self.refuse_at(begin + between + "^%s " % sign)
                    self.refuse_at(begin + between + "^%s #" % sign)
                    self.refuse_at(begin + between + "%s^" % sign)
                    self.refuse_at(begin + between + "%s^\n" % sign)
                    self.refuse_at(begin + between + "%s^#" % sign)

    def test_no_sign(self):
        for word in WORDS:
            for marked in ("x^. ", "^y ", "q^q ", "q.^. ", "^. ", "^Q ", "q^\n", "q.^\n", "q^a", "^1 ", "t^s "):
                self.refuse_at(word + "\n" + marked)


class FrenchStops(RefusingStops):
    head = "french\nq "

    def test_the_row(self):
        self.refuse_stops(
            "^\n", "a^\n", ".....^\n", "......^.\n", "......^a\n", ".....^r\n", "^j", "^0.....\n", "^A", "^ ......",
        )

    def test_basses(self):
        self.refuse_stops(
            "...... ^\n", "...... ^ a\n", "...... ^b\n", "...... ^8\n", "...... ^3\n", "...... ^.\n", "...... a^a\n",
            "...... /^b\n", "...... /^ ", "...... //^\n", "...... ///^/a\n", "...... ///^4",
            "...... 4^5\n", "...... a^/", "...... a ^\n", "...... ^ ", "...... /^", "...... a ^", "...... 7 ^",
        )

    def test_courses_out_of_order_or_twice(self):
        signs = ["a", "/a", "//a", "///a", "4", "5", "6", "7"]
        for one, first in enumerate(signs):
            for second in signs[:one + 1]:
                for rest in ("\n", "", "#", " "):
                    self.refuse_stops("...... %s ^%s%s" % (first, second, rest))
                self.refuse_stops("...... %s %s^#" % (first, second[:-1]))
        self.refuse_stops("...... 4 /^\n", "...... 4 //^", "abcdef a 4 7 ^6\n")


class ItalianStops(RefusingStops):
    head = "italian\nq "

    def test_the_row(self):
        self.refuse_stops(
            "^\n", "0^\n", ".....^\n", "......^.\n", "......^0\n", ".....^a\n", "^t", "^X", "^ ......", ".....^",
        )

    def test_basses(self):
        self.refuse_stops(
            "...... ^\n", "...... ^ 7\n", "...... ^6\n", "...... ^0\n", "...... ^.\n", "...... 7^7\n", "...... 7^0\n",
            "...... 1^\n", "...... 1^ ", "...... 1^5\n", "...... 1^7\n", "...... 10^0\n", "...... ^2", "...... 9 ^\n",
            "...... 1^", "...... 7 1^", "...... ^-7\n", "...... ^x\n",
        )

    def test_courses_out_of_order_or_twice(self):
        for first in range(7, 15):
            for second in range(7, first + 1):
                for rest in ("\n", "", "#", " ", "0"):
                    self.refuse_stops("...... %d ^%d%s" % (first, second, rest))
        self.refuse_stops("...... 14 1^#", "...... 14 1^", "...... 14 1^5\n", "012345 7 9 14 ^8\n")


class GermanStops(RefusingStops):
    head = "german\nq "

    def test_signs(self):
        self.refuse_stops(
            "^\n", "^ a\n", "a ^\n", "a ^ ", "a ^.\n", ".^.\n", ".^ a\n", ".^a\n", "^j\n", "^u\n", "^w\n",
            "^J\n", "^Q\n", "^0\n", "^6\n", "a^b\n", "aa^b\n", "aaa^b", "5^5\n", "+^+\n", "A^A\n", "1^2\n",
            "-^\n", "-^6\n", "-^0", "-^-7", "-1^5\n", "-1^\n", "-1^ ", "-7^0\n", "-10^0\n",
            "-^", "-1^", ".^", "a^", "a ^",
        )

    def test_a_crossing_up_to_three_times(self):
        for letter in "abcdefghiklmnopqrstvxyz&9":
            for often in (1, 2, 3):
                self.assertEqual(judge(codes("german\nq %s\n" % (letter * often))), [1])
            for often in (4, 5, 9):
                self.refuse_stops(letter * 3 + "^" + letter * (often - 3) + "\n")

    def test_courses_out_of_order_or_twice(self):
        for first in ALL_STOPS:
            for second in ALL_STOPS:
                one, two = german_sign(*first), german_sign(*second)
                if first[0] < second[0]:
                    self.assertEqual(judge(codes("german\nq %s %s\n" % (one, two))), [1])
                else:
                    self.refuse_stops("%s ^%s\n" % (one, two))

    def test_a_sign_is_looked_at_before_what_follows(self):
        self.refuse_stops(
            "a ^a", "a ^aa", "a ^aaaa\n", "a ^b#", "a ^eb\n", "a ^5", "a ^5#", "-7 ^A", "-9 ^-8#",
            "-14 -1^", "-14 -1^#", "-14 ^-10", "-14 -^", "-14 -1^5", "+ -^", "5 4 3 ^3\n", "5 + -7 ^1\n",
        )


class Mutated(Case):
    """Many texts, near to pieces' texts, against the fault that the helper finds by patterns."""

    def test_against_patterns(self):
        dice = random.Random(4711)
        pieces = 0
        for turn in range(6000):
            text = piece_text(turn % 3, some_piece(dice))
            for again in range(dice.choice((0, 1, 1, 1, 2, 3))):
                text = mutated(dice, text)
            found = fault(text)
            pieces += found is None
            if found is None:
                self.assertEqual(judge(codes(text)), [text.count("\n") - 1], text)
            else:
                self.assertEqual(judge(codes(text)), [-6, found], text)
                self.assertEqual(sizes(codes(text)), [-6], text)
        self.assertGreater(pieces, 500)


if __name__ == "__main__":
    unittest.main()
