"""What each call does to a table of eight dice, and what it answers.

A table is a list of eight lists of faces, one for each die. Every die has a
face, so an empty list says that the die isn't there.
"""

ROOM = 8
MOST_FACES = 12
MOST_SHOWN = 63
MOST_SUMS = 505
MOST_BITS = 255

DONE = 0
OUTSIDE = -1
ABSENT = -4


def new_table():
    return [[] for i in range(ROOM)]


def begin(table):
    for i in range(ROOM):
        table[i] = []
    return DONE


def die(table, i, faces):
    if i < 0 or i >= ROOM:
        return OUTSIDE
    if len(faces) < 1 or len(faces) > MOST_FACES:
        return OUTSIDE
    if max(faces) > MOST_SHOWN:
        return OUTSIDE
    table[i] = list(faces)
    return DONE


def sums(table, most, numbers):
    refused = refusal_of_row(table, numbers)
    if refused != DONE:
        return [refused]
    ways = ways_to_sums(table, numbers)
    if most < 1 or most > MOST_SUMS:
        return [len(ways)]
    return [len(ways)] + ways[:most]


def same(table, a, b):
    if a > MOST_BITS or b > MOST_BITS:
        return OUTSIDE
    ones = numbers_of_bits(a)
    others = numbers_of_bits(b)
    refused = refusal(table, ones + others)
    if refused != DONE:
        return refused
    # The last sum has always a way, so equal lists also mean equally many sums.
    return 1 if ways_to_sums(table, ones) == ways_to_sums(table, others) else 0


def wins(table, i, j):
    refused = refusal(table, [i, j])
    if refused != DONE:
        return refused
    return winning_twos(table[i], table[j])


def ring(table, numbers):
    refused = refusal_of_row(table, numbers)
    if refused != DONE:
        return refused
    if len(numbers) < 2:
        return 0
    for place, i in enumerate(numbers):
        j = numbers[(place + 1) % len(numbers)]
        if not beats(table[i], table[j]):
            return 0
    return 1


def ahead(table, i, j):
    refused = refusal(table, [i, j])
    if refused != DONE:
        return refused
    return 1 if never_behind(table[i], table[j]) else 0


def refusal_of_row(table, numbers):
    if len(numbers) > ROOM:
        return OUTSIDE
    return refusal(table, numbers)


def refusal(table, numbers):
    """OUTSIDE, ABSENT, or DONE where nothing is refused."""
    # Two walks, as any number outside the room is refused ahead of a die that isn't there.
    for i in numbers:
        if i < 0 or i >= ROOM:
            return OUTSIDE
    for i in numbers:
        if len(table[i]) == 0:
            return ABSENT
    return DONE


def numbers_of_bits(bits):
    return [i for i in range(ROOM) if (bits >> i) % 2 == 1]


def ways_to_sums(table, numbers):
    """The ways to each sum of these dice, from sum 0 to the greatest."""
    ways = [1]
    for i in numbers:
        ways = ways_with_die(ways, table[i])
    return ways


def ways_with_die(ways, faces):
    more = [0] * (len(ways) + max(faces))
    for face in faces:
        for before, many in enumerate(ways):
            more[before + face] = more[before + face] + many
    return more


def winning_twos(own, other):
    many = 0
    for face in own:
        for against in other:
            if face > against:
                many = many + 1
    return many


def beats(own, other):
    return winning_twos(own, other) > winning_twos(other, own)


def never_behind(own, other):
    # Every face shows more than a t below 0, and none more than a t from MOST_SHOWN on:
    # at all such t the parts are equal.
    for t in range(MOST_SHOWN):
        # The parts are multiplied out, as the dice may differ in how many faces they have.
        if faces_above(own, t) * len(other) < faces_above(other, t) * len(own):
            return False
    return True


def faces_above(faces, t):
    return len([face for face in faces if face > t])
