"""Promises 8 and 9."""

import itertools
import unittest
from collections import Counter

from asking import BEGIN, GREATEST, LEAST, ask, die, last, pair, pairs, same, wins

OUTSIDE = (0, 13, -1, -12, 14, 24, 255, LEAST, GREATEST)


def usual(n):
    return list(range(1, n + 1))


# By n: every usual pair of n but the one of two usual dice, which is the last of all.
OTHERS = {
    1: [],
    2: [],
    3: [],
    4: [([1, 2, 2, 3], [1, 3, 3, 5])],
    5: [],
    6: [([1, 2, 2, 3, 3, 4], [1, 3, 4, 5, 6, 8])],
    7: [],
    8: [
        ([1, 2, 2, 3, 3, 4, 4, 5], [1, 3, 5, 5, 7, 7, 9, 11]),
        ([1, 2, 2, 3, 5, 6, 6, 7], [1, 3, 3, 5, 5, 7, 7, 9]),
        ([1, 2, 3, 3, 4, 4, 5, 6], [1, 2, 5, 5, 6, 6, 9, 10]),
    ],
    9: [([1, 2, 2, 3, 3, 3, 4, 4, 5], [1, 4, 4, 7, 7, 7, 10, 10, 13])],
    10: [([1, 2, 2, 3, 3, 4, 4, 5, 5, 6], [1, 3, 5, 6, 7, 8, 9, 10, 12, 14])],
    11: [],
    12: [
        ([1, 2, 2, 3, 3, 3, 4, 4, 4, 5, 5, 6], [1, 4, 5, 7, 8, 9, 10, 11, 12, 14, 15, 18]),
        ([1, 2, 2, 3, 3, 4, 4, 5, 5, 6, 6, 7], [1, 3, 5, 7, 7, 9, 9, 11, 11, 13, 15, 17]),
        ([1, 2, 2, 3, 3, 4, 7, 8, 8, 9, 9, 10], [1, 3, 4, 5, 6, 7, 8, 9, 10, 11, 12, 14]),
        ([1, 2, 2, 3, 5, 6, 6, 7, 9, 10, 10, 11], [1, 3, 3, 5, 5, 7, 7, 9, 9, 11, 11, 13]),
        ([1, 2, 3, 3, 4, 4, 5, 5, 6, 6, 7, 8], [1, 2, 5, 6, 7, 8, 9, 10, 11, 12, 15, 16]),
        ([1, 2, 3, 3, 4, 5, 7, 8, 9, 9, 10, 11], [1, 2, 4, 5, 5, 6, 8, 9, 9, 10, 12, 13]),
        ([1, 2, 3, 4, 4, 5, 5, 6, 6, 7, 8, 9], [1, 2, 3, 7, 7, 8, 8, 9, 9, 13, 14, 15]),
    ],
}
ALL = {n: others + [(usual(n), usual(n))] for n, others in OTHERS.items()}


def thrown(one, other):
    return Counter(x + y for x, y in itertools.product(one, other))


def told_pairs(n):
    """Every pair that is told of n, one call each, until one is refused."""
    found = []
    for k in range(100):
        told = last(pair(n, k, 24))
        if told == [-1]:
            return found
        found.append((told[1:n + 1], told[n + 1:]))
    raise AssertionError(f"no end of pairs of {n}")


def other_die(n, one):
    """The faces of the die that makes up a usual pair with this one, or None."""
    left = thrown(usual(n), usual(n))
    faces = []
    while len(faces) < n:
        face = min((total for total in left if left[total] > 0), default=0) - one[0]
        left.subtract(x + face for x in one)
        if face < 1 or min(left.values()) < 0:
            return None
        faces.append(face)
    return faces


def by_every_die(n):
    """All usual pairs, by trying every first die that shows 1 to 2 n - 1."""
    found = []
    for rest in itertools.combinations_with_replacement(range(1, 2 * n), n):
        other = other_die(n, rest)
        if other is not None and list(rest) <= other:
            found.append((list(rest), other))
    return sorted(found)


def times(one, other):
    product = [0] * (len(one) + len(other) - 1)
    for (i, x), (j, y) in itertools.product(enumerate(one), enumerate(other)):
        product[i + j] += x * y
    return product


def over(one, other):
    """A polynomial over another that has 1 as its last number and divides it."""
    rest = list(one)
    quotient = [0] * (len(one) - len(other) + 1)
    for at in reversed(range(len(quotient))):
        quotient[at] = rest[at + len(other) - 1]
        for i, y in enumerate(other):
            rest[at + i] -= quotient[at] * y
    if any(rest):
        raise AssertionError("it does not divide")
    return quotient


def factor(d):
    """The part of x to the d less 1 that none of the d below it has."""
    polynomial = [-1] + [0] * (d - 1) + [1]
    for less in range(1, d):
        if d % less == 0:
            polynomial = over(polynomial, factor(less))
    return polynomial


def by_factors(n):
    """All usual pairs: a die's ways are a product of factors of those of usual dice."""
    factors = [factor(d) for d in range(2, n + 1) if n % d == 0]
    found = []
    for powers in itertools.product(range(3), repeat=len(factors)):
        one, other = [0, 1], [0, 1]
        for polynomial, power in zip(factors, powers):
            for time in range(power):
                one = times(one, polynomial)
            for time in range(2 - power):
                other = times(other, polynomial)
        if sum(one) == n and min(one + other) >= 0:
            dice = [[face for face, many in enumerate(ways) for time in range(many)] for ways in (one, other)]
            if dice[0] <= dice[1]:
                found.append((dice[0], dice[1]))
    return sorted(found)


class PairsTest(unittest.TestCase):
    def test_every_n(self):
        expected = [1, 1, 1, 2, 1, 2, 1, 4, 2, 2, 1, 8]
        self.assertEqual(ask(*[pairs(n) for n in range(1, 13)]), [[many] for many in expected])
        for n in range(1, 13):
            self.assertEqual(last(pairs(n)), [expected[n - 1]])
            self.assertEqual(last(pairs(n)), [len(ALL[n])])

    def test_n_outside(self):
        for n in OUTSIDE:
            self.assertEqual(last(pairs(n)), [-1])

    def test_dice_on_the_table_do_not_matter(self):
        told = ask(die(0, [1, 2, 2, 3]), die(1, [1, 3, 3, 5]), pairs(4), pairs(13), BEGIN, pairs(4), pairs(8))
        self.assertEqual(told[2:], [[2], [-1], [0], [2], [4]])

    def test_nothing_changes(self):
        self.assertEqual(
            ask(die(0, [1, 2]), pairs(12), pairs(0), pair(12, 0, 24), pair(12, 8, 24), wins(0, 0), wins(1, 1))[-2:],
            [[1], [-4]])


class PairTest(unittest.TestCase):
    def test_every_pair_of_every_n(self):
        for n in range(1, 13):
            self.assertEqual(told_pairs(n), ALL[n])

    def test_all_are_told(self):
        for n in range(1, 13):
            self.assertEqual(told_pairs(n), by_factors(n))

    def test_all_are_told_by_trying_every_die(self):
        for n in range(1, 7):
            self.assertEqual(told_pairs(n), by_every_die(n))

    def test_sums_as_of_usual_dice(self):
        for n in range(1, 13):
            for one, other in told_pairs(n):
                self.assertEqual((len(one), len(other)), (n, n))
                self.assertGreaterEqual(min(one + other), 1)
                self.assertEqual(thrown(one, other), thrown(usual(n), usual(n)))
                put = [die(0, usual(n)), die(1, usual(n)), die(2, one), die(3, other)]
                self.assertEqual(last(*put, same(3, 12)), [1])

    def test_order(self):
        for n in range(1, 13):
            told = told_pairs(n)
            for before, behind in zip(told, told[1:]):
                self.assertLess(before, behind)
            for one, other in told:
                self.assertEqual([one, other], [sorted(one), sorted(other)])
                self.assertLessEqual(one, other)

    def test_most_outside_1_to_24(self):
        for n, k in ((1, 0), (6, 0), (6, 1), (12, 0), (12, 7)):
            for most in (0, -1, -24, LEAST, 25, 26, 255, GREATEST):
                self.assertEqual(last(pair(n, k, most)), [2 * n])

    def test_most_smaller_equal_and_greater(self):
        for n in range(1, 13):
            for k, dice in enumerate(ALL[n]):
                told = ask(*[pair(n, k, most) for most in range(1, 25)])
                self.assertEqual(told, [[2 * n] + (dice[0] + dice[1])[:most] for most in range(1, 25)])

    def test_k_outside(self):
        for n in range(1, 13):
            many = len(ALL[n])
            for k in (-1, -many, -many - 1, LEAST, many, many + 1, 2 * many + 1, GREATEST):
                for most in (24, 1, 0, 25, LEAST, GREATEST):
                    self.assertEqual(last(pair(n, k, most)), [-1])

    def test_n_outside(self):
        for n in OUTSIDE:
            for k in (0, 1, -1, LEAST, GREATEST):
                for most in (24, 1, 0, 25, LEAST, GREATEST):
                    self.assertEqual(last(pair(n, k, most)), [-1])

    def test_pair_in_any_order_with_others(self):
        asked = [(n, k) for n in (12, 4, 8, 12, 6) for k in (1, 0, 1)]
        told = ask(*[call for n, k in asked for call in (pair(n, k, 24), pairs(n), pair(n, k, 0))])
        self.assertEqual(told[0::3], [[2 * n] + ALL[n][k][0] + ALL[n][k][1] for n, k in asked])
        self.assertEqual(told[1::3], [[len(ALL[n])] for n, k in asked])
        self.assertEqual(told[2::3], [[2 * n] for n, k in asked])


if __name__ == "__main__":
    unittest.main()
