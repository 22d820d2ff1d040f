"""How a sheet lies in a picture, and what each of its boxes is told."""

from sheetreader.sheet import om_right

TOO_FAINT = -61
NOT_FOUND = -2

EMPTY = 0
FULL = 1
UNSURE = 2


def ink_of(picture, edge):
    return [1 if brightness <= edge else 0 for brightness in picture]


def ink_within(sheet, ink, x, y, w, h):
    has = 0
    for row in range(y, y + h):
        begin = row * sheet.width + x
        has += sum(ink[begin:begin + w])
    return has


def ink_in_squares(sheet, ink, dx, dy):
    has = 0
    for corner in sheet.corners:
        has += ink_within(sheet, ink, corner.x + dx, corner.y + dy, sheet.side, sheet.side)
    return has


def best_shift(sheet, ink):
    # Below what any shift has, so that the first is taken.
    best = (0, 0, -1)
    for dy in range(-sheet.shift, sheet.shift + 1):
        for dx in range(-sheet.shift, sheet.shift + 1):
            has = ink_in_squares(sheet, ink, dx, dy)
            if has > best[2]:
                best = (dx, dy, has)
    return best


def om_find(sheet, picture):
    right = om_right(sheet)
    if right < 0:
        return right
    ordered = sorted(picture)
    dark = ordered[sheet.dust]
    light = ordered[len(ordered) - 1 - sheet.dust]
    if light < dark + 2 * sheet.noise + 2:
        return TOO_FAINT
    edge = (light + dark) // 2
    best = best_shift(sheet, ink_of(picture, edge))
    if best[2] + sheet.dust < 4 * sheet.side * sheet.side:
        return NOT_FOUND
    return (best[0], best[1], edge, best[2])


def told_of(sheet, box, has):
    # Dust may have hidden as much ink as it may have feigned, so each doubt is told apart.
    places = box.w * box.h
    may_be_full = 1024 * (has + sheet.dust) >= sheet.fill * places
    may_be_blank = 1024 * max(has - sheet.dust, 0) <= sheet.blank * places
    if may_be_blank and not may_be_full:
        return EMPTY
    if may_be_full and not may_be_blank:
        return FULL
    return UNSURE


def om_read(sheet, picture):
    found = om_find(sheet, picture)
    # The number of a refusal stands alone; dx may be below 0 too, so the sign wouldn't tell them apart.
    if isinstance(found, int):
        return found
    ink = ink_of(picture, found[2])
    told = []
    for box in sheet.boxes:
        has = ink_within(sheet, ink, box.x + found[0], box.y + found[1], box.w, box.h)
        told.append(told_of(sheet, box, has))
    return told
