"""Reads the list of calls: where each call begins, and what it passes."""

# By the number of a call: how many whole numbers it passes ahead of its list.
NUMBER_COUNTS = (2, 1, 1, 1, 1, 0, 0, 0, 0, 0, 1, 0, 1, 0, 0, 0, 0, 1, 0)
CALLS_WITH_LIST = (1, 3, 5, 8, 9, 10)


# The row is the list that a call passes; it is empty where a call passes none.
class Call:
    def __init__(self, number, numbers, row):
        self.number = number
        self.numbers = numbers
        self.row = row


def read_calls(calls):
    found = []
    place = 0
    while place < len(calls):
        number = calls[place]
        place += 1
        numbers = calls[place:place + NUMBER_COUNTS[number]]
        place += len(numbers)
        row = []
        if number in CALLS_WITH_LIST:
            row_end = place + 1 + calls[place]
            row = calls[place + 1:row_end]
            place = row_end
        found.append(Call(number, numbers, row))
    return found
