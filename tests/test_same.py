"""Promise 4."""

import itertools
import unittest
from collections import Counter

from asking import GREATEST, GREATEST_BITS, ask, die, last, same

USUAL = [1, 2, 3, 4, 5, 6]
USUAL_DICE = [die(0, USUAL), die(1, USUAL)]
OTHER_PAIR = [die(2, [1, 2, 2, 3, 3, 4]), die(3, [1, 3, 4, 5, 6, 8])]


def by_every_throw(dice, bits):
    chosen = [faces for i, faces in enumerate(dice) if bits & (1 << i)]
    return Counter(sum(throw) for throw in itertools.product(*chosen))


class SameTest(unittest.TestCase):
    def test_other_usual_pair(self):
        dice = USUAL_DICE + OTHER_PAIR
        self.assertEqual(last(*dice, same(3, 12)), [1])
        self.assertEqual(last(*dice, same(12, 3)), [1])
        self.assertEqual(last(*dice, same(5, 10)), [0])
        self.assertEqual(last(*dice, same(3, 4)), [0])

    def test_one_die_each(self):
        self.assertEqual(last(die(0, [1, 2]), die(7, [2, 1]), same(1, 128)), [1])
        self.assertEqual(last(die(0, [1, 2]), die(7, [1, 3]), same(1, 128)), [0])

    def test_same_sums_in_other_numbers_of_ways(self):
        self.assertEqual(last(die(0, [1, 2]), die(1, [1, 1, 2, 2]), same(1, 2)), [0])
        self.assertEqual(last(die(0, [1, 1, 2]), die(1, [1, 2, 2]), same(1, 2)), [0])

    def test_one_has_the_beginning_of_the_other(self):
        self.assertEqual(last(die(0, [0, 1]), die(1, [0, 1, 2]), same(1, 2)), [0])
        self.assertEqual(last(die(0, [0, 1]), die(1, [0, 1, 2]), same(2, 1)), [0])

    def test_no_dice_on_both_sides(self):
        self.assertEqual(last(same(0, 0)), [1])
        self.assertEqual(last(die(0, [3]), same(0, 0)), [1])

    def test_no_dice_on_one_side(self):
        for faces, expected in (([0], 1), ([0, 0], 0), ([1], 0), ([0, 1], 0)):
            self.assertEqual(last(die(4, faces), same(16, 0)), [expected])
            self.assertEqual(last(die(4, faces), same(0, 16)), [expected])

    def test_dice_against_themselves(self):
        dice = [die(i, [i, 2 * i + 1]) for i in range(8)]
        for bits in (1, 2, 128, 129, 170, 255):
            self.assertEqual(last(*dice, same(bits, bits)), [1])

    def test_a_die_on_both_sides(self):
        dice = [die(0, [1, 2]), die(1, [0]), die(2, [0, 0])]
        self.assertEqual(last(*dice, same(1, 3)), [1])
        self.assertEqual(last(*dice, same(1, 5)), [0])

    def test_all_twos_of_sides(self):
        dice = [[0, 1], [1, 0], [0], [0, 2], [1, 2, 3, 0], [2, 2], [0, 0], [2]]
        calls = [die(i, faces) for i, faces in enumerate(dice)]
        sides = list(range(0, 256, 5)) + [255]
        thrown = {bits: by_every_throw(dice, bits) for bits in sides}
        seen = Counter()
        for a in sides:
            # A call's list holds 400 calls at the most.
            told = ask(*calls, *[same(a, b) for b in sides])[8:]
            expected = [[1 if thrown[a] == thrown[b] else 0] for b in sides]
            self.assertEqual(told, expected)
            seen.update(answer[0] for answer in told)
        self.assertGreater(seen[1], len(sides))
        self.assertGreater(seen[0], len(sides))

    def test_above_255(self):
        dice = [die(i, [1]) for i in range(8)]
        self.assertEqual(last(*dice, same(255, 255)), [1])
        for bits in (256, 257, 511, 65536, GREATEST, GREATEST + 1, GREATEST_BITS):
            for other in (0, 1, 255, bits):
                self.assertEqual(last(*dice, same(bits, other)), [-1])
                self.assertEqual(last(*dice, same(other, bits)), [-1])

    def test_die_that_is_not_there(self):
        for bits in (2, 3, 128, 129, 255):
            for other in (0, 1, bits):
                self.assertEqual(last(die(0, [1]), same(bits, other)), [-4])
                self.assertEqual(last(die(0, [1]), same(other, bits)), [-4])

    def test_outside_is_looked_at_before_not_there(self):
        for bits in (256, 258, GREATEST_BITS):
            self.assertEqual(last(die(0, [1]), same(2, bits)), [-1])
            self.assertEqual(last(die(0, [1]), same(bits, 2)), [-1])
            self.assertEqual(last(same(bits, bits)), [-1])

    def test_nothing_changes(self):
        self.assertEqual(
            ask(die(0, [1]), same(1, 1), same(1, 256), same(1, 2), same(1, 1), same(0, 1)),
            [[0], [1], [-1], [-4], [1], [0]])


if __name__ == "__main__":
    unittest.main()
