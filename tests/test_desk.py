"""The interface: how calls are handed in, and how answers are given back."""

import unittest

from asking import BEGIN, cut, die, line, same, sums, wins
from ringdice.desk import answers

MIXED = [
    BEGIN, die(0, [1, 2]), die(1, [3]), sums(2, [0, 1]), same(1, 2), wins(1, 0), die(0, [64]),
    sums(0, [0]), sums(505, [2]), BEGIN, wins(0, 1),
]
MIXED_TOLD = [1, 0, 1, 0, 1, 0, 3, 6, 0, 0, 1, 0, 1, 2, 1, -1, 1, 3, 1, -4, 1, 0, 1, -4]


def refuse(self, *args, **kwargs):
    raise AssertionError("what was handed in is changed")


class Unchanging(list):
    """A list that can't be changed, not for a while either."""


for name in ("__setitem__", "__delitem__", "__iadd__", "__imul__", "append", "extend", "insert", "pop",
             "remove", "clear", "reverse", "sort"):
    setattr(Unchanging, name, refuse)


class DeskTest(unittest.TestCase):
    def test_count_stands_before_each_answer(self):
        self.assertEqual(answers(line(MIXED)), MIXED_TOLD)

    def test_every_beginning_of_a_line(self):
        parts = cut(MIXED_TOLD, len(MIXED))
        for many in range(len(MIXED) + 1):
            self.assertEqual(cut(answers(line(MIXED[:many])), many), parts[:many])

    def test_rows_that_look_like_calls(self):
        calls = line([BEGIN, die(1, [4, 0, 0]), die(0, [0, 0]), wins(1, 0), sums(3, [0, 1, 0])])
        self.assertEqual(answers(calls), [1, 0, 1, 0, 1, 0, 1, 2, 4, 5, 8, 0, 0])

    def test_empty_rows(self):
        calls = line([BEGIN, die(0, []), sums(505, []), die(0, []), sums(0, []), wins(0, 0)])
        self.assertEqual(answers(calls), [1, 0, 1, -1, 2, 1, 1, 1, -1, 1, 1, 1, -4])

    def test_400_calls(self):
        calls = [BEGIN]
        expected = [[0]]
        for face in range(133):
            calls += [die(face % 8, [face % 64]), wins(face % 8, face % 8), sums(0, [face % 8])]
            expected += [[0], [0], [face % 64 + 1]]
        self.assertEqual(len(calls), 400)
        self.assertEqual(cut(answers(line(calls)), 400), expected)

    def test_400_times_begin(self):
        self.assertEqual(answers([0] * 400), [1, 0] * 400)

    def test_400_calls_of_the_longest_sums(self):
        dice = [die(i, [63 - k for k in range(12)]) for i in range(8)]
        calls = [BEGIN] + dice + [sums(505, list(range(8))), same(255, 255)] * 195 + [wins(0, 1)]
        self.assertEqual(len(calls), 400)
        parts = cut(answers(line(calls)), 400)
        self.assertEqual([len(part) for part in parts[9:399:2]], [506] * 195)
        self.assertEqual(sum(parts[9][1:]), 12 ** 8)
        self.assertEqual(parts[10:400:2], [[1]] * 195)
        self.assertEqual(parts[399], [66])

    def test_what_is_handed_in_is_not_changed(self):
        handed = Unchanging(line(MIXED))
        self.assertEqual(answers(handed), MIXED_TOLD)
        self.assertEqual(list(handed), line(MIXED))

    def test_nothing_is_kept(self):
        with_die = line([BEGIN, die(0, [1, 2]), wins(0, 0)])
        without = line([BEGIN, wins(0, 0)])
        for time in range(3):
            self.assertEqual(answers(with_die), [1, 0, 1, 0, 1, 1])
            self.assertEqual(answers(without), [1, 0, 1, -4])
            self.assertEqual(answers([]), [])

    def test_each_time_another_list_is_given_back(self):
        told = answers(line(MIXED))
        told.clear()
        self.assertEqual(answers(line(MIXED)), MIXED_TOLD)
        told = answers([])
        told.append(1)
        self.assertEqual(answers([]), [])

    def test_a_list_of_whole_numbers_is_given_back(self):
        for calls in ([], line(MIXED), line([BEGIN, same(0, 0), die(0, [1]), same(0, 1)])):
            told = answers(calls)
            self.assertIs(type(told), list)
            for number in told:
                self.assertIs(type(number), int)


if __name__ == "__main__":
    unittest.main()
