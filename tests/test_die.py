"""Promise 2."""

import unittest

from asking import GREATEST, LEAST, ask, die, last, sums, wins


class DieTest(unittest.TestCase):
    def test_one_face(self):
        self.assertEqual(ask(die(0, [3]), sums(505, [0])), [[0], [4, 0, 0, 0, 1]])

    def test_twelve_faces(self):
        faces = [1, 2, 3, 4, 5, 6, 6, 5, 4, 3, 2, 0]
        self.assertEqual(ask(die(0, faces), sums(505, [0])), [[0], [7, 1, 1, 2, 2, 2, 2, 2]])

    def test_each_number_of_faces(self):
        for n in range(1, 13):
            self.assertEqual(ask(die(4, [1] * n), sums(505, [4])), [[0], [2, 0, n]])

    def test_faces_0_and_63(self):
        self.assertEqual(ask(die(0, [0]), sums(505, [0])), [[0], [1, 1]])
        self.assertEqual(ask(die(0, [63]), sums(505, [0])), [[0], [64] + [0] * 63 + [1]])
        self.assertEqual(ask(die(0, [63, 0, 63]), sums(505, [0])), [[0], [64, 1] + [0] * 62 + [2]])

    def test_twelve_faces_of_63(self):
        self.assertEqual(ask(die(0, [63] * 12), sums(505, [0])), [[0], [64] + [0] * 63 + [12]])

    def test_each_i_is_its_own_die(self):
        dice = [die(i, [i + 1]) for i in range(8)]
        asked = [sums(505, [i]) for i in range(8)]
        expected = [[0]] * 8 + [[i + 2] + [0] * (i + 1) + [1] for i in range(8)]
        self.assertEqual(ask(*dice, *asked), expected)

    def test_i_0_and_7_leave_others_absent(self):
        for i in (0, 7):
            self.assertEqual(last(die(i, [1]), wins(i, i)), [0])
            for other in range(8):
                if other != i:
                    self.assertEqual(last(die(i, [1]), wins(other, other)), [-4])

    def test_other_faces_take_the_place_of_the_first(self):
        self.assertEqual(
            ask(die(2, [1, 2, 3]), die(2, [4]), sums(505, [2]), die(2, [0, 1]), sums(505, [2])),
            [[0], [0], [5, 0, 0, 0, 0, 1], [0], [2, 1, 1]])

    def test_i_outside(self):
        for i in (-1, 8, -8, 9, 255, 256, LEAST, GREATEST):
            self.assertEqual(last(die(i, [1])), [-1])

    def test_no_faces(self):
        for i in (0, 7, 8):
            self.assertEqual(last(die(i, [])), [-1])

    def test_thirteen_faces(self):
        self.assertEqual(last(die(0, [1] * 13)), [-1])

    def test_face_above_63(self):
        for face in (64, 65, 127, 128, 255):
            for faces in ([face], [face, 1, 2], [1, face, 2], [1] * 11 + [face]):
                self.assertEqual(last(die(0, faces)), [-1])

    def test_refusal_keeps_the_die_that_was_there(self):
        for refused in (die(0, []), die(0, [64]), die(0, [1, 255]), die(0, [2] * 13)):
            self.assertEqual(
                ask(die(0, [1, 2]), refused, sums(505, [0])),
                [[0], [-1], [3, 0, 1, 1]])

    def test_refusal_puts_no_die(self):
        for refused in (die(3, []), die(3, [64]), die(3, [1, 255])):
            self.assertEqual(ask(refused, wins(3, 3)), [[-1], [-4]])

    def test_refusal_of_i_changes_no_die(self):
        dice = [die(i, [i]) for i in range(8)]
        asked = [sums(505, [i]) for i in range(8)]
        for i in (-1, -8, 8, LEAST, GREATEST):
            told = ask(*dice, die(i, [9, 9]), *asked)
            self.assertEqual(told[8], [-1])
            self.assertEqual(told[9:], ask(*dice, *asked)[8:])
            for there in range(8):
                self.assertEqual(last(die(i, [9, 9]), wins(there, there)), [-4])


if __name__ == "__main__":
    unittest.main()
