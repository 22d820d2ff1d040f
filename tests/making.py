"""Sheets, pictures and calls for the tests, and a way to take answers apart."""

from sheetreader.record import answers, boxes_from, corners_from
from sheetreader.sheet import Sheet

PAPER = 200
INK = 50

MEASURES = ("width", "height", "shift", "side", "dust", "noise", "fill", "blank", "fields")


def sheet(boxes, width=40, height=30, shift=1, side=2, dust=0, noise=0, fill=600, blank=200, fields=64,
          corners=None):
    """The numbers of a sheet; its corners lie as far out as their zones allow, unless given."""
    if corners is None:
        more = 2 * shift + 1
        right = width - more - side
        below = height - more - side
        corners = [more, more, 0, right, more, 0, more, below, 0, right, below, 0]
    return {
        "width": width, "height": height, "shift": shift, "side": side, "dust": dust, "noise": noise,
        "fill": fill, "blank": blank, "fields": fields, "corners": list(corners),
        "boxes": [number for box in boxes for number in box],
    }


def as_object(numbers):
    """The same sheet as the program's own parts take it."""
    nine = [numbers[name] for name in MEASURES]
    return Sheet(*nine, corners_from(numbers["corners"]), boxes_from(numbers["boxes"]))


def start(numbers):
    corners = numbers["corners"]
    boxes = numbers["boxes"]
    return [0] + [numbers[name] for name in MEASURES] + [len(corners)] + corners + [len(boxes)] + boxes


def show(picture):
    return [1, len(picture)] + picture


def count(k):
    return [2, k]


def ask(*calls):
    """What several calls on one new object are answered, one list each."""
    given = answers([number for call in calls for number in call])
    parts = []
    place = 0
    while place < len(given):
        size = given[place]
        parts.append(given[place + 1:place + 1 + size])
        place += 1 + size
    assert place == len(given)
    return parts


def fields_told(told):
    """The form of what oc_sheet is answered, from a dict of those fields that aren't 253."""
    return [1, 64] + [told.get(field, 253) for field in range(64)]


def places_of(x, y, w, h):
    return [(x + i, y + j) for j in range(h) for i in range(w)]


def squares(numbers, dx=0, dy=0):
    corners = numbers["corners"]
    places = []
    for k in range(0, len(corners), 3):
        places += places_of(corners[k] + dx, corners[k + 1] + dy, numbers["side"], numbers["side"])
    return places


def flat(numbers, brightness=PAPER):
    return [brightness] * (numbers["width"] * numbers["height"])


def put(numbers, picture, places, brightness=INK):
    """The picture with these places made so bright."""
    changed = list(picture)
    for x, y in places:
        changed[y * numbers["width"] + x] = brightness
    return changed


def drawn(numbers, places=(), dx=0, dy=0, paper=PAPER, ink=INK):
    """A clean picture: the four squares and the places are ink, all of it shifted."""
    picture = put(numbers, flat(numbers, paper), squares(numbers, dx, dy), ink)
    return put(numbers, picture, [(x + dx, y + dy) for x, y in places], ink)
