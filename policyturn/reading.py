"""The form of the list that is handed in: calls, one behind another."""

# By a call's number: how many whole numbers it has.
NUMBERS = (4, 0, 0, 1, 1, 1, 1, 1, 1, 1, 0, 1, 1, 3, 1, 1, 0, 0, 0, 0)
PUBLISH = 1
ENTER = 11


class Call:
    def __init__(self, number, given):
        self.number = number
        self.given = given


def read_calls(numbers):
    read = []
    at = 0
    while at < len(numbers):
        number = numbers[at]
        at += 1
        given = numbers[at:at + NUMBERS[number]]
        at += len(given)
        if number in (PUBLISH, ENTER):
            row = numbers[at + 1:at + 1 + numbers[at]]
            at += 1 + len(row)
            given = given + row
        read.append(Call(number, given))
    return read
