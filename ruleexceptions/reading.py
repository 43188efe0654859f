"""Reads the calls out of the one list of whole numbers that they are handed in as."""

BEGINS = 0
ORDER = 1
FACT = 2
UNFACT = 3
RULE = 4
FIRST = 5
ASK = 6
WHY = 7
BEFORE = 8
ALL = 9
CHANGES = 10
FEWEST = 11

# By a call's number: how many whole numbers stand behind it, ahead of its row if it has one.
SINGLES = (0, 0, 1, 1, 4, 2, 1, 1, 2, 0, 1, 1)


class Call:
    def __init__(self, number, singles, row, end):
        self.number = number
        self.singles = singles
        self.row = row
        self.end = end


# The slices are copies, so that nothing done with a call reaches the list handed in.
def read_call(calls, at):
    number = calls[at]
    behind = at + 1 + SINGLES[number]
    singles = calls[at + 1:behind]
    if number not in (ORDER, RULE, FEWEST):
        return Call(number, singles, [], behind)
    end = behind + 1 + calls[behind]
    return Call(number, singles, calls[behind + 1:end], end)
