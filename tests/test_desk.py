"""The interface: how calls are handed in, and how answers are given back."""

import builtins
import contextlib
import io
import sys
import unittest
from unittest import mock

from asking import BEGIN, ahead, ask, cut, die, line, pair, pairs, ring, same, sums, wins
from ringdice.desk import answers

MIXED = [
    BEGIN, die(0, [1, 2]), die(1, [3]), sums(2, [0, 1]), same(1, 2), wins(1, 0), die(0, [64]),
    sums(0, [0]), sums(505, [2]), ring([0, 1, 0]), ahead(1, 0), ahead(0, 1), ring([]), ring([8]), ring([2]),
    ahead(0, 2), ahead(-1, 2), pairs(4), pair(4, 0, 24), pairs(0), pair(4, 2, 24), pair(6, 0, 7), pair(6, 0, 0),
    BEGIN, wins(0, 1), ring([0, 1]), ahead(0, 1), pair(2, 0, 24),
]
MIXED_TOLD = [
    1, 0, 1, 0, 1, 0, 3, 6, 0, 0, 1, 0, 1, 2, 1, -1,
    1, 3, 1, -4, 1, 0, 1, 1, 1, 0, 1, 0, 1, -1, 1, -4,
    1, -4, 1, -1, 1, 2, 9, 8, 1, 2, 2, 3, 1, 3, 3, 5, 1, -1, 1, -1, 8, 12, 1, 2, 2, 3, 3, 4, 1, 1, 12,
    1, 0, 1, -4, 1, -4, 1, -4, 5, 4, 1, 2, 1, 2,
]


def refuse(self, *args, **kwargs):
    raise AssertionError("what was handed in is changed")


def unasked(*args, **kwargs):
    raise AssertionError("something is read or imported")


class Unchanging(list):
    """A list that can't be changed, not for a while either."""


for name in ("__setitem__", "__delitem__", "__iadd__", "__imul__", "append", "extend", "insert", "pop",
             "remove", "clear", "reverse", "sort"):
    setattr(Unchanging, name, refuse)


class DeskTest(unittest.TestCase):
    def test_count_stands_before_each_answer(self):
        self.assertEqual(answers(line(MIXED)), MIXED_TOLD)

    def test_every_beginning_of_a_line(self):
        parts = cut(MIXED_TOLD, len(MIXED))
        for many in range(len(MIXED) + 1):
            self.assertEqual(cut(answers(line(MIXED[:many])), many), parts[:many])

    def test_rows_that_look_like_calls(self):
        calls = line([BEGIN, die(1, [4, 0, 0]), die(0, [0, 0]), wins(1, 0), sums(3, [0, 1, 0])])
        self.assertEqual(answers(calls), [1, 0, 1, 0, 1, 0, 1, 2, 4, 5, 8, 0, 0])
        calls = line([BEGIN, die(7, [7, 8, 5]), ring([7, 7, 7]), ring([7, 5]), ahead(7, 7), pairs(8), pair(8, 8, 8)])
        self.assertEqual(answers(calls), [1, 0, 1, 0, 1, 0, 1, -4, 1, 1, 1, 4, 1, -1])

    def test_empty_rows(self):
        calls = line([BEGIN, die(0, []), sums(505, []), die(0, []), sums(0, []), ring([]), wins(0, 0)])
        self.assertEqual(answers(calls), [1, 0, 1, -1, 2, 1, 1, 1, -1, 1, 1, 1, 0, 1, -4])

    def test_400_calls(self):
        calls = [BEGIN]
        expected = [[0]]
        for face in range(133):
            calls += [die(face % 8, [face % 64]), wins(face % 8, face % 8), sums(0, [face % 8])]
            expected += [[0], [0], [face % 64 + 1]]
        self.assertEqual(len(calls), 400)
        self.assertEqual(cut(answers(line(calls)), 400), expected)

    def test_400_times_begin(self):
        self.assertEqual(answers([0] * 400), [1, 0] * 400)

    def test_400_calls_of_the_longest_sums(self):
        dice = [die(i, [63 - k for k in range(12)]) for i in range(8)]
        calls = [BEGIN] + dice + [sums(505, list(range(8))), same(255, 255)] * 195 + [wins(0, 1)]
        self.assertEqual(len(calls), 400)
        parts = cut(answers(line(calls)), 400)
        self.assertEqual([len(part) for part in parts[9:399:2]], [506] * 195)
        self.assertEqual(sum(parts[9][1:]), 12 ** 8)
        self.assertEqual(parts[10:400:2], [[1]] * 195)
        self.assertEqual(parts[399], [66])

    def test_400_times_pairs_of_12(self):
        self.assertEqual(answers([0] + [7, 12] * 399), [1, 0] + [1, 8] * 399)

    def test_400_times_pair_of_12(self):
        eight = ask(*[pair(12, k, 24) for k in range(8)])
        parts = cut(answers(line([BEGIN] + [pair(12, k % 8, 24) for k in range(399)])), 400)
        self.assertEqual(parts, [[0]] + [eight[k % 8] for k in range(399)])
        self.assertEqual([len(part) for part in eight], [25] * 8)

    def test_400_times_ring_and_ahead(self):
        dice = [die(i, [63 - k for k in range(12)]) for i in range(8)]
        calls = [BEGIN] + dice + [ring(list(range(8))), ahead(0, 7)] * 195 + [ring([0] * 8)]
        self.assertEqual(answers(line(calls)), [1, 0] * 9 + [1, 0, 1, 1] * 195 + [1, 0])

    def test_400_of_all_nine_calls(self):
        nine = [BEGIN, die(0, [1, 2]), sums(9, [0]), same(1, 1), wins(0, 0), ring([0, 0]), ahead(0, 0), pairs(9),
                pair(3, 0, 4)]
        told = [1, 0, 1, 0, 4, 3, 0, 1, 1, 1, 1, 1, 1, 1, 0, 1, 1, 1, 2, 5, 6, 1, 2, 3, 1]
        calls = nine * 44 + nine[:4]
        self.assertEqual(len(calls), 400)
        self.assertEqual(answers(line(calls)), told * 44 + told[:11])

    def test_longest_list_of_calls(self):
        # No call holds more numbers than die with twelve faces; the last two dice show 13 to 24 and 12 to 23.
        calls = [BEGIN] + [die(k % 8, [(k + face) % 64 for face in range(12)]) for k in range(398)] + [wins(5, 4)]
        self.assertEqual(len(calls), 400)
        self.assertLessEqual(len(line(calls)), 8000)
        self.assertEqual(answers(line(calls)), [1, 0] * 399 + [1, 78])

    def test_what_is_handed_in_is_not_changed(self):
        handed = Unchanging(line(MIXED))
        self.assertEqual(answers(handed), MIXED_TOLD)
        self.assertEqual(list(handed), line(MIXED))

    def test_nothing_is_kept(self):
        with_die = line([BEGIN, die(0, [1, 2]), wins(0, 0)])
        without = line([BEGIN, wins(0, 0)])
        for time in range(3):
            self.assertEqual(answers(with_die), [1, 0, 1, 0, 1, 1])
            self.assertEqual(answers(without), [1, 0, 1, -4])
            self.assertEqual(answers([]), [])
            self.assertEqual(answers(line([BEGIN, ring([0, 0]), ahead(0, 0), pairs(6)])), [1, 0, 1, -4, 1, -4, 1, 2])

    def test_each_time_another_list_is_given_back(self):
        told = answers(line(MIXED))
        told.clear()
        self.assertEqual(answers(line(MIXED)), MIXED_TOLD)
        told = answers([])
        told.append(1)
        self.assertEqual(answers([]), [])

    def test_a_list_of_whole_numbers_is_given_back(self):
        for calls in ([], line(MIXED), line([BEGIN, same(0, 0), die(0, [1]), same(0, 1)])):
            told = answers(calls)
            self.assertIs(type(told), list)
            for number in told:
                self.assertIs(type(number), int)

    def test_prints_reads_and_imports_nothing(self):
        written = io.StringIO()
        with contextlib.redirect_stdout(written), contextlib.redirect_stderr(written), \
                mock.patch.object(sys, "stdin", None), mock.patch.object(builtins, "open", unasked), \
                mock.patch.object(builtins, "input", unasked), mock.patch.object(builtins, "__import__", unasked):
            told = answers(line(MIXED))
        self.assertEqual(told, MIXED_TOLD)
        self.assertEqual(written.getvalue(), "")


if __name__ == "__main__":
    unittest.main()
