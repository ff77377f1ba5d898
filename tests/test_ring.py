"""Promise 6."""

import itertools
import unittest

from asking import ask, die, last, ring, wins

THREE = [[2, 4, 9], [1, 6, 8], [3, 5, 7]]
FOUR = [[4, 4, 4, 4, 0, 0], [3, 3, 3, 3, 3, 3], [6, 6, 2, 2, 2, 2], [5, 5, 5, 1, 1, 1]]
EIGHT = [
    [0, 0, 7, 7], [0, 2, 6, 6], [0, 3, 5, 6], [0, 4, 5, 5],
    [0, 3, 4, 7], [1, 3, 3, 7], [1, 2, 5, 6], [1, 1, 5, 7],
]


def put(dice):
    return [die(i, faces) for i, faces in enumerate(dice)]


def turns(numbers):
    """The same round, begun at each of its dice."""
    return [numbers[at:] + numbers[:at] for at in range(len(numbers))]


def goes_round(dice):
    """By going through all twos of faces, as the words say it."""
    behind = dice[1:] + dice[:1]
    return len(dice) > 1 and all(
        sum((x > y) - (x < y) for x, y in itertools.product(one, other)) > 0
        for one, other in zip(dice, behind))


class RingTest(unittest.TestCase):
    def test_dice_that_go_round(self):
        for dice in (THREE, FOUR, EIGHT):
            for numbers in turns(list(range(len(dice)))):
                self.assertEqual(last(*put(dice), ring(numbers)), [1])

    def test_the_other_way_round(self):
        for dice in (THREE, FOUR, EIGHT):
            for numbers in turns(list(range(len(dice)))[::-1]):
                self.assertEqual(last(*put(dice), ring(numbers)), [0])

    def test_no_dice(self):
        self.assertEqual(last(ring([])), [0])
        self.assertEqual(last(*put(EIGHT), ring([])), [0])

    def test_one_die(self):
        for i, faces in enumerate(EIGHT):
            self.assertEqual(last(die(i, faces), ring([i])), [0])
        self.assertEqual(last(die(0, [1]), ring([0])), [0])

    def test_two_dice(self):
        for numbers in itertools.product(range(3), repeat=2):
            self.assertEqual(last(*put(THREE), ring(numbers)), [0])

    def test_a_die_twice_one_behind_the_other(self):
        self.assertEqual(last(*put(THREE), ring([0, 0])), [0])
        for numbers in turns([0, 0, 1, 2]):
            self.assertEqual(last(*put(THREE), ring(numbers)), [0])

    def test_only_one_does_not_beat_the_next(self):
        dice = [[4], [3], [2], [1]]
        for numbers in turns([0, 1, 2, 3]):
            self.assertEqual(last(*put(dice), ring(numbers)), [0])
        dice = [[8 - i] for i in range(8)]
        for numbers in turns(list(range(8))):
            self.assertEqual(last(*put(dice), ring(numbers)), [0])

    def test_the_last_wins_in_as_many_ways_as_the_first(self):
        dice = [[1, 3, 3], [2, 2, 3], [1, 2, 4]]
        told = ask(*put(dice), wins(0, 1), wins(1, 0), wins(1, 2), wins(2, 1), wins(2, 0), wins(0, 2))[3:]
        self.assertEqual(told, [[4], [3], [4], [3], [4], [4]])
        for numbers in turns([0, 1, 2]) + turns([2, 1, 0]):
            self.assertEqual(last(*put(dice), ring(numbers)), [0])

    def test_a_die_that_comes_twice_in_a_round(self):
        for numbers in turns([0, 1, 2, 0, 1, 2]):
            self.assertEqual(last(*put(THREE), ring(numbers)), [1])
        for numbers in turns([0, 1, 2, 3, 0, 1, 2, 3]):
            self.assertEqual(last(*put(FOUR), ring(numbers)), [1])

    def test_other_numbers_of_faces(self):
        for dice in ([[2], [0, 1, 4], [0, 0, 3, 3, 3]], [[0, 3], [0, 2, 2], [0, 1, 1, 4]]):
            for numbers in turns([0, 1, 2]):
                self.assertEqual(last(*put(dice), ring(numbers)), [1])
            for numbers in turns([2, 1, 0]):
                self.assertEqual(last(*put(dice), ring(numbers)), [0])

    def test_every_row_of_up_to_four_dice(self):
        rows = [row for m in range(5) for row in itertools.product(range(8), repeat=m)]
        seen = []
        # A call's list holds 400 calls at the most, and eight of them put the dice.
        for at in range(0, len(rows), 390):
            asked = rows[at:at + 390]
            told = ask(*put(EIGHT), *[ring(row) for row in asked])[8:]
            self.assertEqual(told, [[1 if goes_round([EIGHT[i] for i in row]) else 0] for row in asked])
            seen += told
        self.assertGreater(seen.count([1]), 10)

    def test_number_above_7(self):
        for number in (8, 9, 64, 255):
            for dice in ([number], [0, number], [number, 0], [0] * 7 + [number]):
                self.assertEqual(last(*put(EIGHT), ring(dice)), [-1])

    def test_nine_dice(self):
        self.assertEqual(last(*put(THREE), ring([0, 1, 2] * 3)), [-1])

    def test_die_that_is_not_there(self):
        for dice in ([3], [7], [0, 3], [3, 0], [0, 1, 2, 3], [0, 0, 7], [0] * 7 + [7]):
            self.assertEqual(last(*put(THREE), ring(dice)), [-4])

    def test_outside_is_looked_at_before_not_there(self):
        for dice in ([3, 8], [8, 3], [3, 0, 255], [3] * 7 + [8]):
            self.assertEqual(last(*put(THREE), ring(dice)), [-1])

    def test_nothing_changes(self):
        self.assertEqual(
            ask(*put(THREE), ring([0, 1, 2]), ring([8]), ring([3]), ring([0, 1, 2]))[3:],
            [[1], [-1], [-4], [1]])


if __name__ == "__main__":
    unittest.main()
