"""Promise 1."""

import unittest

from asking import BEGIN, ask, die, last, same, sums, wins
from ringdice.desk import answers


class BeginTest(unittest.TestCase):
    def test_answers_0(self):
        self.assertEqual(answers([0]), [1, 0])

    def test_empty_list_of_calls(self):
        self.assertEqual(answers([]), [])

    def test_no_die_is_there(self):
        for i in range(8):
            self.assertEqual(
                ask(wins(i, i), sums(1, [i]), same(1 << i, 0), same(0, 1 << i)),
                [[-4], [-4], [-4], [-4]])

    def test_no_die_is_there_behind_another_begin(self):
        dice = [die(i, [i + 1]) for i in range(8)]
        for i in range(8):
            self.assertEqual(last(*dice, wins(i, i)), [0])
            self.assertEqual(last(*dice, BEGIN, wins(i, i)), [-4])

    def test_begin_again_and_again(self):
        self.assertEqual(
            ask(die(0, [5]), BEGIN, BEGIN, sums(9, [0]), die(0, [2]), sums(9, [0]), BEGIN, sums(9, [0])),
            [[0], [0], [0], [-4], [0], [3, 0, 0, 1], [0], [-4]])

    def test_dice_of_before_do_not_come_back(self):
        self.assertEqual(
            ask(die(0, [1]), die(1, [2]), BEGIN, die(0, [3]), wins(0, 0), wins(0, 1), same(1, 2)),
            [[0], [0], [0], [0], [0], [-4], [-4]])


if __name__ == "__main__":
    unittest.main()
