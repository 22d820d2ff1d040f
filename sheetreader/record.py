"""A list of calls on one new object, as numbers, and what they are answered."""

from sheetreader.sheet import Box, Corner, Sheet
from sheetreader.tally import Tally

START = 0
SHEET = 1

FORM_NUMBER = 0
FORM_ROW = 1


class Cursor:
    def __init__(self, numbers):
        self.numbers = numbers
        self.place = 0

    def at_end(self):
        return self.place >= len(self.numbers)

    def take(self):
        taken = self.numbers[self.place]
        self.place += 1
        return taken

    def take_several(self, size):
        taken = self.numbers[self.place:self.place + size]
        self.place += size
        return taken

    def take_row(self):
        return self.take_several(self.take())


def corners_from(row):
    return [Corner(row[k], row[k + 1], row[k + 2]) for k in range(0, len(row), 3)]


def boxes_from(row):
    return [
        Box(row[k], row[k + 1], row[k + 2], row[k + 3], row[k + 4], row[k + 5])
        for k in range(0, len(row), 6)
    ]


def take_sheet(cursor):
    nine = cursor.take_several(9)
    corners = corners_from(cursor.take_row())
    boxes = boxes_from(cursor.take_row())
    return Sheet(
        nine[0], nine[1], nine[2], nine[3], nine[4], nine[5], nine[6], nine[7], nine[8], corners, boxes
    )


def answer_call(tally, cursor):
    call = cursor.take()
    if call == START:
        return tally.oc_start(take_sheet(cursor))
    if call == SHEET:
        return tally.oc_sheet(cursor.take_row())
    return tally.oc_count(cursor.take())


def in_numbers(answer):
    if isinstance(answer, int):
        return [FORM_NUMBER, answer]
    return [FORM_ROW, len(answer)] + answer


def answers(calls):
    tally = Tally()
    cursor = Cursor(calls)
    given = []
    while not cursor.at_end():
        answer = in_numbers(answer_call(tally, cursor))
        given.append(len(answer))
        given.extend(answer)
    return given
