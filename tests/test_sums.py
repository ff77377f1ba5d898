"""Promise 3."""

import itertools
import unittest

from asking import GREATEST, LEAST, ask, die, last, sums

USUAL = [1, 2, 3, 4, 5, 6]
TWO_USUAL = [13, 0, 0, 1, 2, 3, 4, 5, 6, 5, 4, 3, 2, 1]


def by_every_throw(dice):
    """How many sums there are and the ways to each, by going through all throws."""
    ways = [0] * (sum(max(faces) for faces in dice) + 1)
    for throw in itertools.product(*dice):
        ways[sum(throw)] += 1
    return [len(ways)] + ways


class SumsTest(unittest.TestCase):
    def test_no_dice(self):
        self.assertEqual(last(sums(505, [])), [1, 1])
        self.assertEqual(last(sums(1, [])), [1, 1])
        self.assertEqual(last(sums(0, [])), [1])
        self.assertEqual(last(die(0, [5]), sums(505, [])), [1, 1])

    def test_one_die(self):
        self.assertEqual(last(die(5, USUAL), sums(505, [5])), [7, 0, 1, 1, 1, 1, 1, 1])

    def test_sums_that_no_throw_has_are_told_with_0_ways(self):
        self.assertEqual(last(die(0, [5, 2, 5]), sums(505, [0])), [6, 0, 0, 1, 0, 0, 2])

    def test_two_dice(self):
        self.assertEqual(last(die(0, USUAL), die(1, USUAL), sums(505, [0, 1])), TWO_USUAL)
        self.assertEqual(last(die(0, [0, 3]), die(1, [1]), sums(505, [1, 0])), [5, 0, 1, 0, 0, 1])

    def test_a_die_taken_twice(self):
        self.assertEqual(last(die(6, USUAL), sums(505, [6, 6])), TWO_USUAL)
        self.assertEqual(
            last(die(0, [0, 1]), die(1, [4]), sums(505, [0, 1, 0])),
            [7, 0, 0, 0, 0, 1, 2, 1])

    def test_a_die_taken_eight_times(self):
        told = last(die(0, USUAL), sums(505, [0] * 8))
        self.assertEqual(told[0], 49)
        self.assertEqual(told[1:9], [0] * 8)
        self.assertEqual(told[9:13], [1, 8, 36, 120])
        self.assertEqual(told[1 + 28], 135954)
        self.assertEqual(sum(told[1:]), 6 ** 8)

    def test_eight_dice(self):
        dice = [[0, 1], [2, 2, 5], [63], [4, 0], [1, 7, 9], [6, 6], [0, 0, 3], [8, 20]]
        calls = [die(i, faces) for i, faces in enumerate(dice)]
        self.assertEqual(last(*calls, sums(505, list(range(8)))), by_every_throw(dice))
        self.assertEqual(last(*calls, sums(505, [7, 6, 5, 4, 3, 2, 1, 0])), by_every_throw(dice))

    def test_greatest_dice(self):
        told = last(*[die(i, [63] * 12) for i in range(8)], sums(505, list(range(8))))
        self.assertEqual(told, [505] + [0] * 504 + [12 ** 8])

    def test_some_of_the_dice(self):
        dice = [[i, i + 2, 11 - i] for i in range(8)]
        calls = [die(i, faces) for i, faces in enumerate(dice)]
        for m in range(5):
            for chosen in itertools.combinations_with_replacement((0, 3, 4, 7), m):
                self.assertEqual(
                    last(*calls, sums(505, chosen)),
                    by_every_throw([dice[i] for i in chosen]))

    def test_most_outside_1_to_505(self):
        for most in (0, -1, -505, LEAST, 506, 1000, GREATEST):
            self.assertEqual(last(die(0, USUAL), sums(most, [0, 0])), [13])

    def test_most_smaller_than_the_number_of_sums(self):
        for most in range(1, 13):
            self.assertEqual(last(die(0, USUAL), sums(most, [0, 0])), TWO_USUAL[:most + 1])

    def test_most_equal_or_greater(self):
        for most in (13, 14, 100, 504, 505):
            self.assertEqual(last(die(0, USUAL), sums(most, [0, 0])), TWO_USUAL)

    def test_most_at_the_greatest_number_of_sums(self):
        dice = [die(i, [63, 0]) for i in range(8)]
        whole = last(*dice, sums(505, list(range(8))))
        self.assertEqual(len(whole), 506)
        self.assertEqual([whole[1], whole[64], whole[505]], [1, 8, 1])
        self.assertEqual(last(*dice, sums(504, list(range(8)))), whole[:505])
        self.assertEqual(last(*dice, sums(506, list(range(8)))), [505])

    def test_number_above_7(self):
        for number in (8, 9, 64, 255):
            for dice in ([number], [0, number], [number, 0], [0] * 7 + [number]):
                for most in (505, 0, LEAST, GREATEST):
                    self.assertEqual(last(die(0, [1]), sums(most, dice)), [-1])

    def test_nine_dice(self):
        self.assertEqual(last(die(0, [1]), sums(505, [0] * 9)), [-1])

    def test_die_that_is_not_there(self):
        for dice in ([1], [0, 1], [1, 0], [0] * 7 + [7]):
            for most in (505, 0, LEAST, GREATEST):
                self.assertEqual(last(die(0, [1]), sums(most, dice)), [-4])

    def test_outside_is_looked_at_before_not_there(self):
        for dice in ([1, 8], [8, 1], [1, 0, 255], [1] * 7 + [8]):
            self.assertEqual(last(die(0, [1]), sums(505, dice)), [-1])

    def test_nothing_changes(self):
        self.assertEqual(
            ask(die(0, [0, 1]), sums(505, [0, 0]), sums(505, [8]), sums(505, [1]), sums(505, [0, 0])),
            [[0], [3, 1, 2, 1], [-1], [-4], [3, 1, 2, 1]])


if __name__ == "__main__":
    unittest.main()
