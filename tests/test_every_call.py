"""What holds of every call: what is handed in stays, a second call answers as the first, nothing is printed."""

import contextlib
import copy
import inspect
import io
import sys
import unittest

from bitsignals import desk
from tests import hardware
from tests.test_rows import Untouched


def rows(f, length, count=1):
    """Rows of numbers of all sorts, the same each time."""
    return [hardware.mixed(f, length, seed) for seed in range(count)]


def transformed(f, length):
    """Rows of finite numbers and rows with others among them: a transform may take them in other ways."""
    return [hardware.ordinary(f, length, 3), hardware.mixed(f, length, 3)]


def calls_of(f):
    """For each call what may be handed in, with f where it takes one; refusals too."""
    whole_numbers = [0, 1, -1, 16777217, -2147483648, 2147483647]
    return (
        [("whole", (f, how) + tuple(rows(f, 40))) for how in (0, 1, 2, 3, 4, 4294967295)]
        + [("from_of", (f, whole_numbers))]
        + [("dot", (f,) + tuple(rows(f, 39, 2))), ("peak", (f,) + tuple(rows(f, 40)))]
        + [("away", (f, gain) + tuple(rows(f, 40))) for gain in (hardware.ONE[f], hardware.TOP[f])]
        + [("window", (f, kind) + tuple(rows(f, 40))) for kind in (0, 1, 2, 3, 4294967295)]
        + [("window", (f, 0, []))]
        + [("tone", (f, n, k)) for n in (0, 1, 12, 8193) for k in (0, 5, 4294967295)]
        + [("turn", (f, way, row)) for way in (0, 1, 2, 4294967295) for row in transformed(f, 24)]
        + [("half", (f, row)) for row in transformed(f, 15)]
        + [("unhalf", (f, n, row)) for n in (14, 15) for row in transformed(f, 16)]
        + [("around", (f, op, row, row[::-1])) for op in (0, 1, 2, 4294967295) for row in transformed(f, 15)]
        + [("conv", (f, n, row, row[:6])) for n in (1, 19, 20, 24) for row in transformed(f, 15)]
        + [("conv", (f, 8192, [], [])), ("split", (f,) + tuple(rows(f, 40)))]
        + [("join", (f,) + tuple(rows(f, 39, 2)))]
        + [("each", (f, op) + tuple(rows(f, 39, 2))) for op in list(range(9)) + [4294967295]]
        + [("one", (f, op) + tuple(rows(f, 40))) for op in list(range(10)) + [4294967295]]
        + [("pair", (f, op) + tuple(rows(f, 40, 2))) for op in (0, 1, 2, 3, 4294967295)]
        + [("look", (f, op) + tuple(rows(f, 40))) for op in (0, 1, 2, 4294967295)]
    )


def calls():
    yield from [("wide", tuple(rows(0, 40))), ("narrow", tuple(rows(1, 40)))]
    for up, down in ((3, 2), (1, 256), (0, 1), (1, 257)):
        for most in (0, 5, 4294967295):
            for row in transformed(0, 24):
                yield "stream", (up, down, most, row[:7], row, row[:2], row[5:])
    yield "stream", (1, 1, 1, [], [], [], [])
    yield from calls_of(0)
    yield from calls_of(1)


def answer_of(name, given):
    return getattr(desk, name)(*given)


def untouched(given):
    return tuple(Untouched(part) if isinstance(part, list) else part for part in given)


# The interface: every call with its arguments.
INTERFACE = {
    "each": ["f", "op", "a", "b"], "one": ["f", "op", "a"], "pair": ["f", "op", "a", "b"], "look": ["f", "op", "x"],
    "wide": ["x"], "narrow": ["x"], "whole": ["f", "how", "x"], "from_of": ["f", "x"], "dot": ["f", "a", "b"],
    "peak": ["f", "x"], "away": ["f", "gain", "x"], "window": ["f", "kind", "x"], "tone": ["f", "n", "k"],
    "turn": ["f", "way", "x"], "half": ["f", "x"], "unhalf": ["f", "n", "x"], "around": ["f", "op", "a", "b"],
    "conv": ["f", "n", "a", "b"], "stream": ["up", "down", "most", "taps", "x", "y", "z"], "split": ["f", "x"],
    "join": ["f", "a", "b"],
}


class EveryCallTest(unittest.TestCase):
    def test_the_interface(self):
        for name, arguments in INTERFACE.items():
            with self.subTest(call=name):
                self.assertEqual(list(inspect.signature(getattr(desk, name)).parameters), arguments)
        self.assertEqual({name for name, given in calls()}, set(INTERFACE))

    def test_arguments_may_be_named(self):
        for name, given in calls():
            with self.subTest(call=name, given=given[:2]):
                named = dict(zip(INTERFACE[name], given, strict=True))
                self.assertEqual(getattr(desk, name)(**named), answer_of(name, given))

    def test_calls_do_not_reach_one_another(self):
        # In one order and in the other: whenever one is called, it is as if for the first time.
        there = [answer_of(name, given) for name, given in calls()]
        back = [answer_of(name, given) for name, given in reversed(list(calls()))]
        self.assertEqual(there, back[::-1])

    def test_what_is_handed_in_stays(self):
        for name, given in calls():
            handed = untouched(given)
            before = copy.deepcopy([list(part) if isinstance(part, list) else part for part in given])
            with self.subTest(call=name, given=given[:2]):
                self.assertEqual(answer_of(name, handed), answer_of(name, given))
                for part in (handed, given):
                    after = [list(item) if isinstance(item, list) else item for item in part]
                    self.assertEqual(after, before)

    def test_a_second_call_answers_as_the_first(self):
        first = [answer_of(name, given) for name, given in calls()]
        kept = copy.deepcopy(first)
        for answer in first:
            # An answer is the caller's own: what becomes of it doesn't reach the next call.
            answer.append(7)
        for (name, given), want in zip(calls(), kept):
            with self.subTest(call=name, given=given[:2]):
                self.assertEqual(answer_of(name, given), want)

    def test_answers_are_new_lists_of_whole_numbers(self):
        for name, given in calls():
            answer = answer_of(name, given)
            with self.subTest(call=name, given=given[:2]):
                self.assertIs(type(answer), list)
                self.assertEqual({type(number) for number in answer}, {int})
                self.assertFalse(any(answer is part for part in given))
                if answer[0] == -2:
                    self.assertEqual(answer, [-2])

    def test_nothing_is_printed_or_imported(self):
        modules = set(sys.modules)
        printed = io.StringIO()
        with contextlib.redirect_stdout(printed), contextlib.redirect_stderr(printed):
            for name, given in calls():
                answer_of(name, given)
        self.assertEqual(printed.getvalue(), "")
        self.assertEqual(set(sys.modules), modules)


if __name__ == "__main__":
    unittest.main()
