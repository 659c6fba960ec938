"""The interface: a list of calls on one new bed is read, and answered in one list."""

from resindrawn.changes import change_cell, change_inlets, change_ratio, change_table, change_vents, start_bed
from resindrawn.questions import ask_air, ask_last, ask_time, ask_wet, ask_whom
from resindrawn.state import NOT_STARTED, Bed

START = 0

# by a call's number: what answers it, how many whole numbers it has, how many rows stand behind these
CALLS = (
    (start_bed, 0, 1),
    (change_cell, 2, 0),
    (change_inlets, 1, 0),
    (change_vents, 1, 0),
    (change_table, 0, 2),
    (change_ratio, 3, 0),
    (ask_time, 2, 0),
    (ask_wet, 1, 0),
    (ask_whom, 1, 0),
    (ask_last, 0, 0),
    (ask_air, 0, 0),
)


class Reader:
    """Goes along a list of calls, which it doesn't change."""

    def __init__(self, calls):
        self.calls = calls
        self.place = 0

    def is_at_end(self):
        return self.place >= len(self.calls)

    def read_number(self):
        return self.read_numbers(1)[0]

    def read_numbers(self, how_many):
        numbers = self.calls[self.place:self.place + how_many]
        self.place += how_many
        return numbers

    def read_row(self):
        return self.read_numbers(self.read_number())


def answer_call(bed, reader):
    number = reader.read_number()
    call = CALLS[number]
    answer = call[0]
    # what is told is read in any case: the next call stands behind it
    told = reader.read_numbers(call[1])
    for row in range(call[2]):
        told.append(reader.read_row())
    if number != START and not bed.is_started():
        return [NOT_STARTED]
    return answer(bed, told)


def answers(calls):
    bed = Bed()
    reader = Reader(calls)
    given = []
    while not reader.is_at_end():
        answer = answer_call(bed, reader)
        given.append(len(answer))
        given.extend(answer)
    return given
