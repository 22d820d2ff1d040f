"""What a sheet is, and when it is right.

An area is a tuple (left, top, right, bottom); right and bottom are the first places beyond it.
"""

NOT_RIGHT = -22


class Corner:
    def __init__(self, x, y, zero):
        self.x = x
        self.y = y
        self.zero = zero


class Box:
    def __init__(self, x, y, w, h, field, zero):
        self.x = x
        self.y = y
        self.w = w
        self.h = h
        self.field = field
        self.zero = zero


class Sheet:
    def __init__(self, width, height, shift, side, dust, noise, fill, blank, fields, corners, boxes):
        self.width = width
        self.height = height
        self.shift = shift
        self.side = side
        self.dust = dust
        self.noise = noise
        self.fill = fill
        self.blank = blank
        self.fields = fields
        self.corners = corners
        self.boxes = boxes


def between(number, least, most):
    return least <= number and number <= most


def lies_within(inner, outer):
    return outer[0] <= inner[0] and outer[1] <= inner[1] and inner[2] <= outer[2] and inner[3] <= outer[3]


def overlap(one, other):
    return one[0] < other[2] and other[0] < one[2] and one[1] < other[3] and other[1] < one[3]


def square_of(sheet, corner):
    return (corner.x, corner.y, corner.x + sheet.side, corner.y + sheet.side)


def zone_of(sheet, corner):
    # The camera may shift the square by shift, and the search goes shift beyond that: paper must be all around.
    more = 2 * sheet.shift + 1
    square = square_of(sheet, corner)
    return (square[0] - more, square[1] - more, square[2] + more, square[3] + more)


def area_of(box):
    return (box.x, box.y, box.x + box.w, box.y + box.h)


def measures_right(sheet):
    return (
        between(sheet.width, 16, 512)
        and between(sheet.height, 16, 512)
        and between(sheet.shift, 0, 15)
        and between(sheet.side, 2, 32)
        and sheet.dust < 2 * sheet.side
        and between(sheet.noise, 0, 31)
        and sheet.blank < sheet.fill
        and sheet.fill <= 1024
        and between(sheet.fields, 1, 64)
        and len(sheet.corners) == 4
        and between(len(sheet.boxes), 1, 256)
    )


def corner_right(sheet, place):
    corner = sheet.corners[place]
    zone = zone_of(sheet, corner)
    for k, other in enumerate(sheet.corners):
        if k != place and overlap(zone, square_of(sheet, other)):
            return False
    for box in sheet.boxes:
        if overlap(zone, area_of(box)):
            return False
    return corner.zero == 0 and lies_within(zone, (0, 0, sheet.width, sheet.height))


def box_right(sheet, box):
    # A box must still lie within the picture when the sheet is shifted.
    room = (sheet.shift, sheet.shift, sheet.width - sheet.shift, sheet.height - sheet.shift)
    return (
        box.w >= 1
        and box.h >= 1
        and lies_within(area_of(box), room)
        and box.field < sheet.fields
        and box.zero == 0
    )


def fields_right(sheet):
    chosen = [box.field for box in sheet.boxes]
    return all([chosen.count(field) <= 16 for field in range(sheet.fields)])


def om_right(sheet):
    # The measures come first: what follows counts up to fields, which may be huge in a sheet that isn't right.
    if not measures_right(sheet):
        return NOT_RIGHT
    if not all([box_right(sheet, box) for box in sheet.boxes]):
        return NOT_RIGHT
    if not all([corner_right(sheet, place) for place in range(4)]):
        return NOT_RIGHT
    if not fields_right(sheet):
        return NOT_RIGHT
    return 0
