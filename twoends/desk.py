"""The desk: a list of calls in, a list of what they answer out."""

from twoends.line import Line

SET_UP = 0
BEGIN = 1
TAKE = 2
# By a call's number: how many whole numbers it has, and how many rows.
SHAPES = ((0, 3), (1, 2), (1, 2), (0, 1))


class Reader:
    def __init__(self, numbers):
        self.numbers = numbers
        self.at = 0

    def has_more(self):
        return self.at < len(self.numbers)

    def number(self):
        number = self.numbers[self.at]
        self.at = self.at + 1
        return number

    def row(self):
        size = self.number()
        row = self.numbers[self.at:self.at + size]
        self.at = self.at + size
        return row


def parts_of(reader, call):
    shape = SHAPES[call]
    parts = []
    for turn in range(shape[0]):
        parts.append(reader.number())
    for turn in range(shape[1]):
        parts.append(reader.row())
    return parts


def answer_of(line, call, parts):
    if call == SET_UP:
        return line.set_up(parts[0], parts[1], parts[2])
    if call == BEGIN:
        return line.begin(parts[0], parts[1], parts[2])
    if call == TAKE:
        return line.take(parts[0], parts[1], parts[2])
    return line.send(parts[0])


def answers(calls):
    reader = Reader(calls)
    line = Line()
    result = []
    while reader.has_more():
        call = reader.number()
        answer = answer_of(line, call, parts_of(reader, call))
        result.append(len(answer))
        result.extend(answer)
    return result
