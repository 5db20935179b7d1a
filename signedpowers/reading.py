"""From the one list that is handed in to the calls that stand in it."""

BEGINS = 0
OFFICE = 1
TERM = 2
AWAY = 3
POWER = 4
HAND = 5
SIGNS = 6
ENDS = 7
ACTS = 8
MAY = 9
WHO = 10
VALID = 11
MOST = 12
TURNS = 13

# How many whole numbers stand behind a call's number, ahead of its row: of begins, of office and so on.
HOW_MANY_NUMBERS = (1, 0, 4, 3, 5, 7, 3, 2, 2, 4, 3, 3, 3, 4, 3)


class Call:
    """Which call it is, its whole numbers, and its row (empty, if it has none)."""

    def __init__(self, which, numbers, row):
        self.which = which
        self.numbers = numbers
        self.row = row


def read_calls(told):
    calls = []
    place = 0
    while place < len(told):
        which = told[place]
        behind = place + 1 + HOW_MANY_NUMBERS[which]
        numbers = told[place + 1:behind]
        row = []
        if which == OFFICE or which == VALID:
            row = read_row(told, behind)
            behind = behind + 1 + len(row)
        calls.append(Call(which, numbers, row))
        place = behind
    return calls


def read_row(told, place):
    first = place + 1
    return told[first:first + told[place]]
