"""The desk takes a list of calls and gives back the list of their answers."""

from ringdice.dice import begin, die, new_table, same, sums, wins

BEGIN = 0
DIE = 1
SUMS = 2
SAME = 3
WINS = 4

# By a call's number: how many whole numbers stand behind it, ahead of its row.
PLAIN_COUNTS = {0: 0, 1: 1, 2: 1, 3: 2, 4: 2}


def answers(calls):
    table = new_table()
    told = []
    at = 0
    while at < len(calls):
        number = calls[at]
        row_at = at + 1 + PLAIN_COUNTS[number]
        plain = calls[at + 1:row_at]
        row = []
        at = row_at
        if number == DIE or number == SUMS:
            at = row_at + 1 + calls[row_at]
            row = calls[row_at + 1:at]
        answer = answer_call(table, number, plain, row)
        told.append(len(answer))
        told.extend(answer)
    return told


def answer_call(table, number, plain, row):
    if number == BEGIN:
        return [begin(table)]
    if number == DIE:
        return [die(table, plain[0], row)]
    if number == SUMS:
        return sums(table, plain[0], row)
    if number == SAME:
        return [same(table, plain[0], plain[1])]
    return [wins(table, plain[0], plain[1])]
