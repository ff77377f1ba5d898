"""Promise 7."""

import itertools
import unittest
from fractions import Fraction

from asking import GREATEST, LEAST, ahead, ask, die, last

OUTSIDE = (-1, -8, 8, 9, 255, 256, LEAST, GREATEST)


def both_ways(one, other):
    """What is answered of one against other, and of other against one."""
    told = ask(die(0, one), die(1, other), ahead(0, 1), ahead(1, 0))
    return [told[2], told[3]]


def part_above(faces, t):
    return Fraction(sum(1 for face in faces if face > t), len(faces))


def never_behind(one, other):
    return all(part_above(one, t) >= part_above(other, t) for t in range(-2, 66))


class AheadTest(unittest.TestCase):
    def test_one_and_zero(self):
        self.assertEqual(both_ways([2, 3, 4], [1, 3, 4]), [[1], [0]])
        self.assertEqual(both_ways([7, 8, 9], [1, 2, 3]), [[1], [0]])
        self.assertEqual(both_ways([6, 1, 5], [4, 6, 1]), [[1], [0]])

    def test_a_die_against_itself(self):
        for i, faces in enumerate(([0], [63], [1, 2, 3, 4, 5, 6], [0, 63], [63] * 12, [0] * 12, [5, 5, 9])):
            self.assertEqual(last(die(i, faces), ahead(i, i)), [1])

    def test_the_same_faces_in_another_order(self):
        self.assertEqual(both_ways([1, 5, 3], [5, 3, 1]), [[1], [1]])

    def test_other_numbers_of_faces_with_equal_parts(self):
        self.assertEqual(both_ways([1, 2], [1, 1, 2, 2]), [[1], [1]])
        self.assertEqual(both_ways([0, 63, 63], [63, 63, 0, 0, 63, 63, 0, 63, 63, 0, 63, 63]), [[1], [1]])
        self.assertEqual(both_ways([7], [7] * 12), [[1], [1]])
        self.assertEqual(both_ways([0], [0] * 12), [[1], [1]])

    def test_other_numbers_of_faces(self):
        # A part counts, not how many faces there are of it.
        self.assertEqual(both_ways([9], [1, 9, 9, 9]), [[1], [0]])
        self.assertEqual(both_ways([1, 2], [1, 2, 2]), [[0], [1]])
        self.assertEqual(both_ways([1] * 7 + [2] * 5, [1] * 6 + [2] * 5), [[0], [1]])

    def test_neither(self):
        self.assertEqual(both_ways([1, 4], [2, 3]), [[0], [0]])
        self.assertEqual(both_ways([0, 63], [1, 62]), [[0], [0]])
        self.assertEqual(both_ways([3], [1, 1, 1, 4]), [[0], [0]])

    def test_one_that_beats_is_not_always_never_behind(self):
        self.assertEqual(both_ways([4, 4, 4, 4, 0, 0], [3, 3, 3, 3, 3, 3]), [[0], [0]])

    def test_only_the_greatest_number_differs(self):
        self.assertEqual(both_ways([63], [62]), [[1], [0]])
        self.assertEqual(both_ways([5, 63], [5, 62]), [[1], [0]])
        self.assertEqual(both_ways([62] * 11 + [63], [62] * 12), [[1], [0]])

    def test_only_the_least_number_differs(self):
        self.assertEqual(both_ways([1], [0]), [[1], [0]])
        self.assertEqual(both_ways([1, 5], [0, 5]), [[1], [0]])
        self.assertEqual(both_ways([0] * 11 + [1], [0] * 12), [[1], [0]])

    def test_one_face_each(self):
        for one, other in itertools.product((0, 1, 2, 30, 31, 61, 62, 63), repeat=2):
            self.assertEqual(both_ways([one], [other])[0], [1 if one >= other else 0])

    def test_all_small_dice(self):
        dice = [list(faces) for many in (1, 2, 3) for faces in itertools.combinations_with_replacement(range(5), many)]
        for one in dice:
            calls = [call for other in dice for call in (die(1, other), ahead(0, 1), ahead(1, 0))]
            told = ask(die(0, one), *calls)[1:]
            self.assertEqual(told[1::3], [[1 if never_behind(one, other) else 0] for other in dice])
            self.assertEqual(told[2::3], [[1 if never_behind(other, one) else 0] for other in dice])

    def test_dice_of_many_faces(self):
        dice = [[(k * step + add) % 64 for k in range(many)]
                for step, add, many in ((5, 0, 12), (5, 3, 12), (11, 1, 12), (7, 9, 11), (7, 20, 10), (5, 4, 9),
                                        (1, 51, 12), (1, 0, 12))]
        put = [die(i, faces) for i, faces in enumerate(dice)]
        for i, j in itertools.product(range(8), repeat=2):
            self.assertEqual(last(*put, ahead(i, j)), [1 if never_behind(dice[i], dice[j]) else 0])

    def test_outside(self):
        dice = [die(i, [i]) for i in range(8)]
        for i in OUTSIDE:
            self.assertEqual(last(*dice, ahead(i, 0)), [-1])
            self.assertEqual(last(*dice, ahead(0, i)), [-1])
            self.assertEqual(last(*dice, ahead(i, i)), [-1])

    def test_die_that_is_not_there(self):
        for i in range(1, 8):
            self.assertEqual(last(die(0, [1]), ahead(0, i)), [-4])
            self.assertEqual(last(die(0, [1]), ahead(i, 0)), [-4])
            self.assertEqual(last(die(0, [1]), ahead(i, i)), [-4])

    def test_outside_is_looked_at_before_not_there(self):
        for i in OUTSIDE:
            self.assertEqual(last(ahead(i, 0)), [-1])
            self.assertEqual(last(ahead(0, i)), [-1])

    def test_nothing_changes(self):
        self.assertEqual(
            ask(die(0, [1]), die(1, [2]), ahead(1, 0), ahead(0, 8), ahead(2, 0), ahead(1, 0), ahead(0, 1))[2:],
            [[1], [-1], [-4], [1], [0]])


if __name__ == "__main__":
    unittest.main()
