"""Builds calls as lists of whole numbers, and cuts what is answered into one list a call."""

from ringdice.desk import answers

LEAST = -2147483648
GREATEST = 2147483647
GREATEST_BITS = 4294967295

BEGIN = [0]


def die(i, faces):
    return [1, i, len(faces)] + list(faces)


def sums(most, dice):
    return [2, most, len(dice)] + list(dice)


def same(a, b):
    return [3, a, b]


def wins(i, j):
    return [4, i, j]


def ring(dice):
    return [5, len(dice)] + list(dice)


def ahead(i, j):
    return [6, i, j]


def pairs(n):
    return [7, n]


def pair(n, k, most):
    return [8, n, k, most]


def line(calls):
    return [number for call in calls for number in call]


def cut(told, how_many):
    parts = []
    at = 0
    while at < len(told):
        end = at + 1 + told[at]
        if told[at] < 1 or end > len(told):
            raise AssertionError(f"a count that doesn't fit at {at}: {told}")
        parts.append(told[at + 1:end])
        at = end
    if len(parts) != how_many:
        raise AssertionError(f"{len(parts)} answers of {how_many} calls")
    return parts


def ask(*calls):
    """The answers of begin and these calls, without that of begin."""
    parts = cut(answers(line([BEGIN] + list(calls))), len(calls) + 1)
    if parts[0] != [0]:
        raise AssertionError(f"begin answered {parts[0]}")
    return parts[1:]


def last(*calls):
    return ask(*calls)[-1]
