"""What holds of every call, whatever it answers: its form, and that it changes and keeps nothing."""

import copy
import inspect
import unittest

from helper import FOURTEEN, KINDS, LARGEST, NO_PIECES, PIECES, TOO_LONG, Case, codes, piece_text
from lutesigns import tabs

PARAMETERS = {
    "judge": ["t"],
    "sizes": ["t"],
    "line": ["i", "t"],
    "turn": ["kind", "t"],
    "same": ["t", "u"],
    "at": ["x", "t"],
    "up": ["by", "t"],
    "cut": ["i", "j", "t"],
    "join": ["t", "u"],
    "sign": ["kind", "course", "fret"],
}
TEXTS = [codes(piece_text(kind, piece)) for kind in KINDS for piece in PIECES[:3]] + NO_PIECES + TOO_LONG[:1]
NUMBERS = {
    "course": (0, 1, 6, 7, 14, 15, 2147483647),
    "fret": (0, 1, 15, 16, 2147483647),
    "by": (0, 1, -1, 15, -15, 16, -16, 2147483647, -2147483648),
    "j": (1, 3, 2147483647),
    "x": (0, 23, 100, 2147483647),
    "i": (0, 2, 9, 2147483647),
    "kind": (0, 1, 2, 3, 2147483647),
}


def handed_in(names):
    """What a call may be handed, a list of arguments each time."""
    many = [[]]
    for name in names:
        many = [some + [value] for some in many for value in (TEXTS if name in "tu" else NUMBERS[name])]
    return many


class EveryCall(Case):
    def test_the_interface(self):
        for name, parameters in PARAMETERS.items():
            found = inspect.signature(getattr(tabs, name)).parameters
            self.assertEqual(list(found), parameters)
            self.assertTrue(all(one.default is one.empty for one in found.values()))

    def test_whole_numbers_in_a_list(self):
        for name, parameters in PARAMETERS.items():
            for values in handed_in(parameters):
                answer = getattr(tabs, name)(*values)
                self.assertIs(type(answer), list)
                self.assertEqual({type(number) for number in answer}, {int})

    def test_a_refusal_is_its_number_alone(self):
        for name, parameters in PARAMETERS.items():
            for values in handed_in(parameters):
                answer = getattr(tabs, name)(*values)
                if answer[0] < 0:
                    self.assertEqual(len(answer), 2 if name == "judge" and answer[0] == -6 else 1)

    def test_nothing_handed_in_is_changed(self):
        for name, parameters in PARAMETERS.items():
            for values in handed_in(parameters):
                before = copy.deepcopy(values)
                getattr(tabs, name)(*values)
                self.assertEqual(values, before)

    def test_nothing_is_kept(self):
        for name, parameters in PARAMETERS.items():
            call = getattr(tabs, name)
            many = handed_in(parameters)
            first = [call(*values) for values in many]
            told = copy.deepcopy(first)
            for answer in first:
                answer.clear()
            again = [call(*values) for values in reversed(many)]
            self.assertEqual(again[::-1], told)

    def test_the_answer_is_a_list_of_its_own(self):
        for kind in KINDS:
            t = codes(piece_text(kind, [(16, FOURTEEN)]))
            for answer in (
                tabs.judge(t), tabs.sizes(t), tabs.line(0, t), tabs.turn(kind, t), tabs.same(t, t), tabs.at(0, t),
                tabs.up(0, t), tabs.cut(0, 1, t), tabs.join(t, t),
            ):
                answer.append(7)
            self.assertEqual(t, codes(piece_text(kind, [(16, FOURTEEN)])))

    def test_long_texts_are_gone_through_by_loops(self):
        for kind in KINDS:
            t = codes(piece_text(kind, LARGEST))
            for other in KINDS:
                self.assertEqual(tabs.turn(other, t)[1:], codes(piece_text(other, LARGEST)))


if __name__ == "__main__":
    unittest.main()
