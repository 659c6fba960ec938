"""The interface: a list of calls on one new bed is read, and answered in one list."""

from resindrawn.changes import CHANGES
from resindrawn.questions import QUESTIONS
from resindrawn.state import NOT_STARTED, Bed

START = 0

# by a call's number: how many whole numbers it has, and how many rows stand behind these
SHAPES = {
    0: (0, 1),
    1: (2, 0),
    2: (1, 0),
    3: (1, 0),
    4: (0, 2),
    5: (3, 0),
    6: (2, 0),
    7: (1, 0),
    8: (1, 0),
    9: (0, 0),
    10: (0, 0),
    11: (1, 0),
    12: (1, 0),
    13: (1, 0),
    14: (0, 0),
    15: (1, 0),
    16: (1, 0),
    17: (2, 0),
    18: (1, 0),
    19: (1, 0),
    20: (0, 0),
}


class Reader:
    """Goes along a list of calls, which it doesn't change."""

    def __init__(self, calls):
        self.calls = calls
        self.place = 0

    def is_at_end(self):
        return self.place >= len(self.calls)

    def read_number(self):
        return self.read_numbers(1)[0]

    def read_numbers(self, how_many):
        numbers = self.calls[self.place:self.place + how_many]
        self.place += how_many
        return numbers

    def read_row(self):
        return self.read_numbers(self.read_number())


def read_told(reader, number):
    """What is told with a call: its whole numbers, then its rows as lists."""
    shape = SHAPES[number]
    told = reader.read_numbers(shape[0])
    for row in range(shape[1]):
        told.append(reader.read_row())
    return told


def answer_call(bed, number, told):
    if number != START and not bed.is_started():
        return [NOT_STARTED]
    if number in CHANGES:
        return CHANGES[number](bed, told)
    return QUESTIONS[number](bed, told)


def answers(calls):
    bed = Bed()
    reader = Reader(calls)
    given = []
    while not reader.is_at_end():
        number = reader.read_number()
        answer = answer_call(bed, number, read_told(reader, number))
        given.append(len(answer))
        given.extend(answer)
    return given
