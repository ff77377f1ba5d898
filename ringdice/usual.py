"""The usual pairs of n: two dice of n faces that have the sums of two usual ones.

A pair is a tuple of two lists of faces. What was found of an n is kept in a
dict by n, for as long as one list of calls is answered.
"""

from ringdice.dice import MOST_FACES, OUTSIDE, ways_with_die

MOST_TOLD = 24


def pairs(found, n):
    if n < 1 or n > MOST_FACES:
        return OUTSIDE
    return len(pairs_found(found, n))


def pair(found, n, k, most):
    if n < 1 or n > MOST_FACES:
        return [OUTSIDE]
    known = pairs_found(found, n)
    if k < 0 or k >= len(known):
        return [OUTSIDE]
    if most < 1 or most > MOST_TOLD:
        return [2 * n]
    both = known[k]
    faces = both[0] + both[1]
    return [2 * n] + faces[:most]


def pairs_found(found, n):
    # The search is long beside all else, and the same n may be asked for in every call.
    if n not in found:
        found[n] = usual_pairs(n)
    return found[n]


def usual_pairs(n):
    """All usual pairs of n, in their order."""
    ways = usual_ways(n)
    # Sum 2 comes in one way, so each of the dice shows 1 once.
    begun = [([1], [1])]
    # With the other die's 1, a face from 2 n on makes a sum that usual dice don't have.
    for face in range(2, 2 * n):
        longer = []
        for first, second in begun:
            longer.extend(with_face(first, second, face, n, ways[face + 1]))
        begun = longer
    # The sums to 2 n come as they should, and n times n throws leave none for a greater sum.
    whole = [both for both in begun if len(both[0]) == n and len(both[1]) == n]
    # Each pair was found with its dice in either order.
    return sorted([both for both in whole if both[0] <= both[1]])


def usual_ways(n):
    """The ways to each sum of two usual dice of n faces, from sum 0 to 2 n."""
    usual = list(range(1, n + 1))
    return ways_with_die(ways_with_die([1], usual), usual)


def with_face(first, second, face, n, ways):
    """All that a begun pair can become when it gets its faces that show face.

    Its dice have all their faces that show less, and ways is how many ways
    there are to be to the sum face + 1.
    """
    # From this face on, only face itself with the other die's 1 makes that sum:
    # so both dice together show face as often as ways are missing.
    missing = ways - ways_to_sum(first, second, face + 1)
    longer = []
    for many in range(missing + 1):
        one = first + [face] * many
        other = second + [face] * (missing - many)
        if len(one) <= n and len(other) <= n:
            longer.append((one, other))
    return longer


def ways_to_sum(first, second, total):
    return sum([second.count(total - face) for face in first])
