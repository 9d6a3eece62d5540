"""What holds over all sixteen calls."""

import builtins
import contextlib
import inspect
import io
import random
import sys
import unittest
from unittest import mock

from cardsseen import play
from helper import GREATEST_HAND, GREATEST_NUMBER, bytes_of, check_unchanged_and_repeated, deals, words_of

INTERFACE = {
    "fault": ["hands"],
    "read": ["text"],
    "write": ["first", "hands"],
    "points": ["hands"],
    "shape": ["p", "hands"],
    "number": ["hands"],
    "deal": ["n"],
    "turn": ["strain", "leader", "hands", "trick"],
    "plays": ["strain", "leader", "hands", "trick"],
    "winner": ["strain", "leader", "cards"],
    "tricks": ["strain", "leader", "hands", "trick"],
    "best": ["strain", "leader", "hands", "trick"],
    "line": ["strain", "leader", "hands", "trick"],
    "table": ["hands"],
    "score": ["level", "strain", "doubled", "vul", "tricks"],
    "bids": ["dealer", "calls"],
}
POSITION_CALLS = ("turn", "plays", "tricks", "best", "line")
BEST_PLAY_CALLS = ("tricks", "best", "line")

FULL = [2 ** 13 - 1 << 13 * suit for suit in range(4)]
FOUR_EACH = [15 << 13 * suit for suit in range(4)]
THREE_EACH = [7 << 13 * suit for suit in range(4)]
COUNT = 53644737765488792839237440000
GREATEST_DEAL = 2 ** 96 - 1
HANDS = [[0] * 4, [1, 2, 4, 8], THREE_EACH, FOUR_EACH, FULL, [1] * 4, [2 ** 52, 1, 2, 4], [], [0] * 3, [0] * 6,
         [GREATEST_HAND] * 4, [GREATEST_HAND] * 6]
POSITIONS = [(4, 0, [0] * 4, []), (0, 3, [1, 2, 4, 0], [3]), (3, 2, THREE_EACH, []), (4, 1, FOUR_EACH, []),
             (4, 0, [1, 2, 4, 8], [0]), (5, 0, [0] * 4, []), (4, 4, [0] * 4, []), (4, 0, [0] * 3, []),
             (GREATEST_NUMBER, GREATEST_NUMBER, [GREATEST_HAND] * 6, [GREATEST_NUMBER] * 6)]
EXAMPLES = {
    "fault": [(hands,) for hands in HANDS],
    "read": [(bytes_of(words),) for words in ("", "N:... ... ... ...", "E:A... K... Q... J...", "N:A... A...", "N" * 200)],
    "write": [(first, hands) for hands in HANDS for first in (0, 3, 4, GREATEST_NUMBER)],
    "points": [(hands,) for hands in HANDS],
    "shape": [(p, hands) for hands in HANDS for p in (0, 3, 4, GREATEST_NUMBER)],
    "number": [(hands,) for hands in HANDS],
    "deal": [(n,) for n in (0, 1, COUNT - 1, COUNT, GREATEST_DEAL)],
    "turn": POSITIONS,
    "plays": POSITIONS,
    "winner": [(4, 0, [0, 1, 2, 3]), (0, 3, [13, 0, 26, 39]), (5, 0, [0, 1, 2, 3]), (4, 0, [0] * 4), (4, 0, []),
               (4, 4, [GREATEST_NUMBER] * 6)],
    "tricks": POSITIONS,
    "best": POSITIONS,
    "line": POSITIONS,
    "table": [(hands,) for hands in HANDS],
    "score": [(1, 0, 0, 0, 7), (7, 4, 2, 1, 13), (7, 4, 2, 1, 0), (0, 0, 0, 0, 0), (8, 5, 3, 2, 14),
              tuple([GREATEST_NUMBER] * 5)],
    "bids": [(0, []), (3, [0] * 4), (1, [3, 1, 2, 0, 0, 0]), (2, [3, 3]), (4, []), (0, [0] * 400),
             (GREATEST_NUMBER, [GREATEST_NUMBER] * 400)],
}


def answer_of(name, arguments):
    return getattr(play, name)(*[list(a) if isinstance(a, list) else a for a in arguments])


def all_answers(names):
    return {(name, number): answer_of(name, arguments)
            for name in names for number, arguments in enumerate(EXAMPLES[name])}


def refuse(*args, **kwargs):
    raise AssertionError("nothing is to be read or imported")


class WholeTest(unittest.TestCase):
    def check_answers(self, name, *cases):
        for arguments, expected in cases:
            self.assertEqual(answer_of(name, arguments), expected, (name, arguments))

    def test_interface(self):
        for name, parameters in INTERFACE.items():
            self.assertEqual(list(inspect.signature(getattr(play, name)).parameters), parameters, name)
            self.assertEqual(getattr(play, name).__module__, "cardsseen.play")

    def test_unchanged_and_repeated(self):
        self.assertEqual(list(EXAMPLES), list(INTERFACE))
        for name, rows in EXAMPLES.items():
            for arguments in rows:
                answer = check_unchanged_and_repeated(self, getattr(play, name), *arguments)
                places = 2 if name in ("read", "bids") and answer[0] == -2 else 1
                self.assertTrue(answer[0] == 0 or len(answer) == places, (name, arguments))

    def test_each_call_answers_and_refuses(self):
        refusals = {"fault": {-1}, "read": {-2}, "write": {-1, -3}, "points": {-1}, "shape": {-1}, "number": {-1, -3},
                    "deal": {-3}, "turn": {-1, -3}, "plays": {-1, -3}, "winner": {-1}, "tricks": {-1, -3, -9},
                    "best": {-1, -3, -9}, "line": {-1, -3, -9}, "table": {-1, -3, -9}, "score": {-1},
                    "bids": {-1, -2}}
        for name, rows in EXAMPLES.items():
            told = {answer_of(name, arguments)[0] for arguments in rows}
            self.assertEqual(told, refusals[name] | {0}, name)

    def test_nothing_is_kept(self):
        """Whatever was called before, the answers are the same."""
        expected = all_answers(INTERFACE)
        self.assertEqual(all_answers(reversed(list(INTERFACE))), expected)
        rng = random.Random(120)
        for turn in range(300):
            name, number = rng.choice(list(expected))
            self.assertEqual(answer_of(name, EXAMPLES[name][number]), expected[name, number])

    def test_nothing_is_printed_read_or_imported(self):
        expected = all_answers(INTERFACE)
        told, complaints = io.StringIO(), io.StringIO()
        with contextlib.redirect_stdout(told), contextlib.redirect_stderr(complaints), \
                mock.patch.object(sys, "stdin", None), mock.patch.object(builtins, "open", refuse), \
                mock.patch.object(builtins, "__import__", refuse):
            answers = all_answers(INTERFACE)
        self.assertEqual(answers, expected)
        self.assertEqual((told.getvalue(), complaints.getvalue()), ("", ""))

    def test_few_calls_within_one_another(self):
        expected = all_answers(INTERFACE)
        limit = sys.getrecursionlimit()
        try:
            sys.setrecursionlimit(len(inspect.stack(0)) + 120)
            answers = all_answers(INTERFACE)
        finally:
            sys.setrecursionlimit(limit)
        self.assertEqual(answers, expected)

    def test_texts_and_hands_tell_one_another(self):
        for hands in deals(121, 4):
            for first, letter in enumerate("NESW"):
                text = play.write(first, hands)[1:]
                self.assertEqual(words_of(text)[:2], letter + ":")
                self.assertEqual(play.read(text), [0] + hands)
                self.assertEqual(play.write(first, play.read(text)[1:]), [0] + text)

    def test_numbers_and_deals_tell_one_another(self):
        rng = random.Random(122)
        for n in [0, 1, COUNT - 2, COUNT - 1] + [rng.randrange(COUNT) for turn in range(60)]:
            hands = play.deal(n)[1:]
            self.assertEqual(play.number(hands), [0, n])
            for first in range(4):
                self.assertEqual(play.number(play.read(play.write(first, hands)[1:])[1:]), [0, n])
        for hands in deals(123, 60, [13]):
            self.assertEqual(play.deal(play.number(hands)[1]), [0] + hands)

    def test_first_fault_of_hands(self):
        bad = [2 ** 52, 2 ** 52, 0, 0]
        self.check_answers("fault", ((bad[:3],), [-1]), ((bad,), [0, 1]), (([1, 1, 0, 0],), [0, 2]),
                           (([1, 2, 0, 0],), [0, 3]))
        for count in (3, 5):
            hands = (bad + bad)[:count]
            for name in ("fault", "points", "number", "table"):
                self.check_answers(name, ((hands,), [-1]))
            for name in ("write", "shape"):
                self.check_answers(name, ((0, hands), [-1]), ((4, hands), [-1]))
        self.check_answers("write", ((4, bad), [-1]), ((3, bad), [-3]))
        self.check_answers("shape", ((4, bad), [-1]))
        self.check_answers("number", ((THREE_EACH,), [-3]), ((bad,), [-3]))
        self.check_answers("table", ((FULL[:3],), [-1]), (([FULL[0]] * 4,), [-3]), ((FULL,), [-9]))

    def test_first_fault_of_positions(self):
        for name in POSITION_CALLS:
            self.check_answers(name, ((5, 4, FULL[:3], [0, 0]), [-1]), ((5, 4, FULL + [0], [52] * 4), [-1]),
                               ((5, 0, FULL, []), [-3]), ((0, 4, FULL, []), [-3]), ((4, 0, FULL, [0]), [-3]))
        for name in BEST_PLAY_CALLS:
            self.check_answers(name, ((4, 0, FULL, []), [-9]), ((4, 0, FOUR_EACH, []), [-9]),
                               ((4, 3, [7, 7 << 13, 7 << 26, 7 << 39], [42]), [-3]),
                               ((4, 3, [15, 15 << 13, 15 << 26, 7 << 39], [42]), [-9]))

    def test_first_fault_of_texts_and_calls(self):
        self.check_answers("read", ((bytes_of("X:A... A..."),), [-2, 0]), ((bytes_of("NX A... A..."),), [-2, 1]),
                           ((bytes_of("N:A... A... KK.. "),), [-2, 7]), ((bytes_of("N:A..."),), [-2, 6]))
        self.check_answers("bids", ((4, [1, 1]), [-1]), ((3, [1, 1]), [-2, 0]), ((0, [3, 3, 38]), [-2, 1]),
                           ((0, [0, 0, 0, 0, 38, 1]), [-2, 4]))


if __name__ == "__main__":
    unittest.main()
