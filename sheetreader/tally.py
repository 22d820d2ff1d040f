"""What each field is told, and the counts over many sheets."""

from sheetreader.picture import EMPTY, FULL, UNSURE, om_read
from sheetreader.sheet import NOT_RIGHT, om_right

MOST_COUNTED = 4294967295
ALL_COUNTED = -28

FIELDS_TOLD = 64
FIELD_NONE = 253
FIELD_SEVERAL = 254
FIELD_UNSURE = 255


def told_by_field(sheet, told):
    rows = [[] for field in range(FIELDS_TOLD)]
    for box, reading in zip(sheet.boxes, told):
        rows[box.field].append(reading)
    return rows


def told_of_field(row):
    full = row.count(FULL)
    if full >= 2:
        return FIELD_SEVERAL
    if UNSURE in row:
        return FIELD_UNSURE
    if full == 1:
        return row.index(FULL)
    return FIELD_NONE


def is_sure(reading, row):
    return reading == FULL and row.count(FULL) == 1 and UNSURE not in row


def is_perhaps(reading, row):
    others = row.count(FULL)
    if reading == FULL:
        others -= 1
    return told_of_field(row) == FIELD_UNSURE and reading != EMPTY and others == 0


class Tally:
    def __init__(self):
        self.sheet = None
        self.counted = 0
        self.sure = []
        self.perhaps = []

    def oc_start(self, sheet):
        right = om_right(sheet)
        if right < 0:
            return right
        self.sheet = sheet
        self.counted = 0
        self.sure = [0 for box in sheet.boxes]
        self.perhaps = [0 for box in sheet.boxes]
        return 0

    def oc_sheet(self, picture):
        if self.counted == MOST_COUNTED:
            return ALL_COUNTED
        told = om_read(self.sheet, picture)
        if isinstance(told, int):
            return told
        rows = told_by_field(self.sheet, told)
        self.count_sheet(told, rows)
        return [told_of_field(row) for row in rows]

    def count_sheet(self, told, rows):
        self.counted += 1
        for k, reading in enumerate(told):
            row = rows[self.sheet.boxes[k].field]
            if is_sure(reading, row):
                self.sure[k] += 1
            if is_perhaps(reading, row):
                self.perhaps[k] += 1

    def oc_count(self, k):
        if k >= len(self.sure):
            return NOT_RIGHT
        return [self.sure[k], self.perhaps[k], self.counted]
