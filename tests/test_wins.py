"""Promise 5."""

import unittest

from asking import GREATEST, LEAST, ask, die, last, wins

OUTSIDE = (-1, -8, 8, 9, 255, 256, LEAST, GREATEST)


class WinsTest(unittest.TestCase):
    def test_ordinary_dice(self):
        dice = [die(0, [2, 4, 9]), die(7, [1, 6, 8])]
        self.assertEqual(last(*dice, wins(0, 7)), [5])
        self.assertEqual(last(*dice, wins(7, 0)), [4])

    def test_dice_that_go_round(self):
        dice = [
            die(0, [4, 4, 4, 4, 0, 0]),
            die(1, [3, 3, 3, 3, 3, 3]),
            die(2, [6, 6, 2, 2, 2, 2]),
            die(3, [5, 5, 5, 1, 1, 1]),
        ]
        for i, j in ((0, 1), (1, 2), (2, 3), (3, 0)):
            self.assertEqual(last(*dice, wins(i, j)), [24])
            self.assertEqual(last(*dice, wins(j, i)), [12])

    def test_other_numbers_of_faces(self):
        dice = [die(1, [5]), die(2, [0, 1, 4, 5, 6, 7, 63])]
        self.assertEqual(last(*dice, wins(1, 2)), [3])
        self.assertEqual(last(*dice, wins(2, 1)), [3])

    def test_equal_faces_do_not_win(self):
        dice = [die(0, [3, 3, 5]), die(1, [3, 5, 5])]
        self.assertEqual(last(*dice, wins(0, 1)), [1])
        self.assertEqual(last(*dice, wins(1, 0)), [4])
        self.assertEqual(last(die(0, [7, 7]), die(1, [7]), wins(0, 1)), [0])

    def test_a_die_against_itself(self):
        self.assertEqual(last(die(0, [1, 2, 3, 4, 5, 6]), wins(0, 0)), [15])
        self.assertEqual(last(die(7, [2, 2, 5]), wins(7, 7)), [2])
        self.assertEqual(last(die(3, [63]), wins(3, 3)), [0])

    def test_all_and_none(self):
        dice = [die(0, [63] * 12), die(1, [0] * 12)]
        self.assertEqual(last(*dice, wins(0, 1)), [144])
        self.assertEqual(last(*dice, wins(1, 0)), [0])

    def test_outside(self):
        dice = [die(i, [i]) for i in range(8)]
        for i in OUTSIDE:
            self.assertEqual(last(*dice, wins(i, 0)), [-1])
            self.assertEqual(last(*dice, wins(0, i)), [-1])
            self.assertEqual(last(*dice, wins(i, i)), [-1])

    def test_die_that_is_not_there(self):
        for i in range(1, 8):
            self.assertEqual(last(die(0, [1]), wins(0, i)), [-4])
            self.assertEqual(last(die(0, [1]), wins(i, 0)), [-4])
            self.assertEqual(last(die(0, [1]), wins(i, i)), [-4])

    def test_outside_is_looked_at_before_not_there(self):
        for i in OUTSIDE:
            self.assertEqual(last(wins(i, 0)), [-1])
            self.assertEqual(last(wins(0, i)), [-1])

    def test_nothing_changes(self):
        self.assertEqual(
            ask(die(0, [1, 2]), wins(0, 0), wins(0, 8), wins(1, 0), wins(0, 0)),
            [[0], [1], [-1], [-4], [1]])


if __name__ == "__main__":
    unittest.main()
