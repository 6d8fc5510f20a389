"""What holds of every call: rows of any length, what is handed in stays, nothing is kept or printed."""

import contextlib
import io
import sys
import unittest

from bitsignals import desk
from tests import hardware

LONG = 16000


class Untouched(list):
    """A list that can be read alone, so that no change goes unseen, not for a while either."""

    def refuse(self, *given, **named):
        raise AssertionError("what was handed in is changed")

    append = extend = insert = pop = remove = clear = reverse = sort = refuse
    __setitem__ = __delitem__ = __iadd__ = __imul__ = refuse


# The call, how many ops it has, how many rows it takes, what the machine's own numbers answer.
CALLS = (
    (desk.each, 8, 2, hardware.each_row),
    (desk.one, 9, 1, hardware.one_row),
    (desk.pair, 3, 2, hardware.pair_row),
    (desk.look, 2, 1, hardware.look_row),
)


def every_op():
    for call, ops, count, wanted in CALLS:
        for f in (0, 1):
            for op in range(ops):
                yield call, f, op, count, wanted


class RowsTest(unittest.TestCase):
    def test_no_numbers(self):
        for call, f, op, count, wanted in every_op():
            with self.subTest(call=call.__name__, f=f, op=op):
                self.assertEqual(call(f, op, *[[] for i in range(count)]), [0])

    def test_a_refusal_is_alone_whatever_the_rows(self):
        for call, ops, count, wanted in CALLS:
            for f in (0, 1):
                for op in (ops, ops + 1, 4294967295):
                    for length in (0, 2, LONG):
                        with self.subTest(call=call.__name__, f=f, op=op, length=length):
                            self.assertEqual(call(f, op, *[[0] * length for i in range(count)]), [-2])

    def test_one_number_and_one_pair(self):
        for call, f, op, count, wanted in every_op():
            length = 2 if call in (desk.pair, desk.look) else 1
            rows = [hardware.mixed(f, 4, seed)[1:1 + length] for seed in range(count)]
            with self.subTest(call=call.__name__, f=f, op=op):
                self.assertEqual(call(f, op, *rows), wanted(f, op, *rows))

    def test_long_rows(self):
        for f in (0, 1):
            rows = [hardware.mixed(f, LONG, seed) for seed in (11, 12)]
            for call, ops, count, wanted in CALLS:
                for op in range(ops):
                    with self.subTest(call=call.__name__, f=f, op=op):
                        self.assertTrue(call(f, op, *rows[:count]) == wanted(f, op, *rows[:count]))

    def test_what_is_handed_in_stays(self):
        for call, f, op, count, wanted in every_op():
            rows = [Untouched(hardware.mixed(f, 40, seed)) for seed in range(count)]
            before = [list(row) for row in rows]
            with self.subTest(call=call.__name__, f=f, op=op):
                call(f, op, *rows)
                self.assertEqual([list(row) for row in rows], before)

    def test_one_row_may_stand_for_both(self):
        for call in (desk.each, desk.pair):
            row = hardware.mixed(1, 40, 5)
            self.assertEqual(call(1, 1, row, row), call(1, 1, list(row), list(row)))

    def test_a_second_call_answers_as_the_first(self):
        first = {}
        for turn in range(2):
            for call, f, op, count, wanted in every_op():
                rows = [hardware.mixed(f, 40, seed) for seed in range(count)]
                answer = call(f, op, *rows)
                with self.subTest(call=call.__name__, f=f, op=op, turn=turn):
                    self.assertEqual(first.setdefault((call.__name__, f, op), list(answer)), answer)
                # An answer is the caller's own: what becomes of it doesn't reach the next call.
                answer.clear()
                call(f, 4294967295, *rows).append(7)
                self.assertEqual(call(f, 4294967295, *rows), [-2])

    def test_answers_are_lists_of_whole_numbers(self):
        for call, f, op, count, wanted in every_op():
            answer = call(f, op, *[hardware.mixed(f, 40, seed) for seed in range(count)])
            with self.subTest(call=call.__name__, f=f, op=op):
                self.assertIs(type(answer), list)
                self.assertEqual({type(number) for number in answer}, {int})
                self.assertTrue(all(0 <= number <= hardware.TOP[f] for number in answer))

    def test_nothing_is_printed_or_imported(self):
        modules = set(sys.modules)
        printed = io.StringIO()
        with contextlib.redirect_stdout(printed), contextlib.redirect_stderr(printed):
            for call, f, op, count, wanted in every_op():
                call(f, op, *[hardware.mixed(f, 8, seed) for seed in range(count)])
        self.assertEqual(printed.getvalue(), "")
        self.assertEqual(set(sys.modules), modules)


if __name__ == "__main__":
    unittest.main()
