"""The desk takes a list of calls and gives back the list of their answers."""

from ringdice.dice import ahead, begin, die, new_table, ring, same, sums, wins
from ringdice.usual import pair, pairs

BEGIN = 0
DIE = 1
SUMS = 2
SAME = 3
WINS = 4
RING = 5
AHEAD = 6
PAIRS = 7
PAIR = 8

# By a call's number: how many whole numbers stand behind it, ahead of its row.
PLAIN_COUNTS = {0: 0, 1: 1, 2: 1, 3: 2, 4: 2, 5: 0, 6: 2, 7: 1, 8: 3}


def answers(calls):
    table = new_table()
    found = {}
    told = []
    at = 0
    while at < len(calls):
        number = calls[at]
        row_at = at + 1 + PLAIN_COUNTS[number]
        plain = calls[at + 1:row_at]
        row = []
        at = row_at
        if number == DIE or number == SUMS or number == RING:
            at = row_at + 1 + calls[row_at]
            row = calls[row_at + 1:at]
        answer = answer_call(table, found, number, plain, row)
        told.append(len(answer))
        told.extend(answer)
    return told


def answer_call(table, found, number, plain, row):
    if number == BEGIN:
        return [begin(table)]
    if number == DIE:
        return [die(table, plain[0], row)]
    if number == SUMS:
        return sums(table, plain[0], row)
    if number == SAME:
        return [same(table, plain[0], plain[1])]
    if number == WINS:
        return [wins(table, plain[0], plain[1])]
    if number == RING:
        return [ring(table, row)]
    if number == AHEAD:
        return [ahead(table, plain[0], plain[1])]
    if number == PAIRS:
        return [pairs(found, plain[0])]
    return pair(found, plain[0], plain[1], plain[2])
