"""What holds, of the stage and of the whole, over many made-up sheets and pictures of them."""

import random
import unittest

from making import as_object, ask, count, places_of, sheet, show, squares, start
from sheetreader.picture import ink_of, om_find, om_read
from sheetreader.sheet import om_right

SHEETS = 120
PICTURES = 4


def made_sheet(rng):
    while True:
        shift = rng.randint(0, 2)
        side = rng.randint(2, 4)
        least = max(16, 2 * side + 3 * (2 * shift + 1))
        width = rng.randint(least, least + 20)
        height = rng.randint(least, least + 20)
        fields = rng.randint(1, 5)
        blank = rng.randint(0, 700)
        boxes = []
        for k in range(rng.randint(1, 60)):
            x, y = rng.randint(0, width), rng.randint(0, height)
            boxes.append((x, y, rng.randint(1, 6), rng.randint(1, 6), rng.randrange(fields), 0))
        numbers = sheet([], width, height, shift, side, rng.randrange(2 * side), rng.randint(0, 31),
                        rng.randint(blank + 1, 1024), blank, fields)
        kept = [box for box in boxes if om_right(as_object({**numbers, "boxes": list(box)})) == 0]
        numbers["boxes"] = [number for box in kept[:16] for number in box]
        if om_right(as_object(numbers)) == 0:
            return numbers


def boxes_of(numbers):
    flat = numbers["boxes"]
    return [tuple(flat[k:k + 6]) for k in range(0, len(flat), 6)]


def inked(ink, box):
    return len([place for place in places_of(*box[:4]) if place in ink])


def truly(numbers, ink, box):
    """1 for a full box, 0 for a blank one, else None."""
    has = 1024 * inked(ink, box)
    places = box[2] * box[3]
    if has >= numbers["fill"] * places:
        return 1
    return 0 if has <= numbers["blank"] * places else None


def made_ink(rng, numbers):
    """Ink on a sheet, such that each box is full or blank; boxes lie clear of the zones, so all ink in them may."""
    while True:
        ink = set(squares(numbers))
        often = rng.choice((0, 0.2, 0.5, 1))
        for box in boxes_of(numbers):
            if rng.random() < often:
                part = rng.choice((0.3, 0.7, 0.9, 1, 1))
                ink.update(place for place in places_of(*box[:4]) if rng.random() < part)
        if None not in [truly(numbers, ink, box) for box in boxes_of(numbers)]:
            return ink


def made_picture(rng, numbers, ink):
    """A picture of the sheet, where its dust lies, and how it's shifted."""
    width, height, noise, shift = (numbers[name] for name in ("width", "height", "noise", "shift"))
    dx, dy = rng.randint(-shift, shift), rng.randint(-shift, shift)
    dark = rng.randint(noise, 255 - 5 * noise - 2)
    paper = rng.choice((dark + 4 * noise + 2, rng.randint(dark + 4 * noise + 2, 255 - noise)))
    picture = []
    for y in range(height):
        for x in range(width):
            base = dark if (x - dx, y - dy) in ink else paper
            picture.append(base + rng.choice((-noise, noise, rng.randint(-noise, noise))))
    near = squares(numbers, dx, dy) + [place for box in boxes_of(numbers) for place in places_of(*box[:4])]
    anywhere = rng.random() < 0.3
    dust = set()
    for k in range(numbers["dust"]):
        x, y = (rng.randrange(width), rng.randrange(height)) if anywhere else rng.choice(near)
        dust.add(y * width + x)
        picture[y * width + x] = rng.choice((0, 255, dark, paper, rng.randint(0, 255)))
    return picture, dust, (dx, dy)


def chosen(numbers, truth, field):
    full = [k for k, told in enumerate(told for box, told in zip(boxes_of(numbers), truth) if box[4] == field) if told]
    if len(full) > 1:
        return 254
    return full[0] if full else 253


class Holds(unittest.TestCase):
    def made(self):
        rng = random.Random(20261116)
        for number in range(SHEETS):
            numbers = made_sheet(rng)
            pictures = []
            for k in range(PICTURES):
                ink = made_ink(rng, numbers)
                pictures.append((ink,) + made_picture(rng, numbers, ink))
            yield numbers, pictures

    def test_the_stage(self):
        for numbers, pictures in self.made():
            boxes = boxes_of(numbers)
            dust = numbers["dust"]
            for ink, picture, dusty, moved in pictures:
                found = om_find(as_object(numbers), picture)
                self.assertEqual(found[:2], moved)
                taken = ink_of(picture, found[2])
                for place, is_ink in enumerate(taken):
                    y, x = divmod(place, numbers["width"])
                    if place not in dusty:
                        self.assertEqual(is_ink == 1, (x - moved[0], y - moved[1]) in ink)
                for box, told in zip(boxes, om_read(as_object(numbers), picture)):
                    full = truly(numbers, ink, box)
                    has = inked(ink, box)
                    places = box[2] * box[3]
                    self.assertIn(told, (full, 2))
                    if full and 1024 * (has - 2 * dust) > numbers["blank"] * places:
                        self.assertEqual(told, 1)
                    if not full and 1024 * (has + 2 * dust) < numbers["fill"] * places:
                        self.assertEqual(told, 0)

    def test_lighter_all_over(self):
        for numbers, pictures in self.made():
            for ink, picture, dusty, moved in pictures:
                more = 255 - max(picture)
                lighter = [brightness + more for brightness in picture]
                before = om_find(as_object(numbers), picture)
                after = om_find(as_object(numbers), lighter)
                self.assertEqual(after, (before[0], before[1], before[2] + more, before[3]))
                self.assertEqual(om_read(as_object(numbers), lighter), om_read(as_object(numbers), picture))

    def test_the_whole(self):
        for numbers, pictures in self.made():
            boxes = boxes_of(numbers)
            calls = [start(numbers)] + [show(picture) for ink, picture, dusty, moved in pictures]
            told = ask(*calls, *[count(k) for k in range(len(boxes))])
            alone = [0] * len(boxes)
            for (ink, picture, dusty, moved), result in zip(pictures, told[1:]):
                truth = [truly(numbers, ink, box) for box in boxes]
                self.assertEqual(result[:2], [1, 64])
                for field in range(64):
                    wanted = chosen(numbers, truth, field)
                    self.assertIn(result[2 + field], (wanted, 255) if field < numbers["fields"] else (253,))
                for k, box in enumerate(boxes):
                    if truth[k] and chosen(numbers, truth, box[4]) != 254:
                        alone[k] += 1
            for k in range(len(boxes)):
                sure, perhaps, counted = told[1 + PICTURES + k][2:]
                self.assertEqual(counted, PICTURES)
                self.assertLessEqual(sure, alone[k])
                self.assertLessEqual(alone[k], sure + perhaps)

    def test_of_a_field_one_box_at_most_is_sure_and_then_none_perhaps(self):
        for numbers, pictures in self.made():
            boxes = boxes_of(numbers)
            for ink, picture, dusty, moved in pictures:
                told = ask(start(numbers), show(picture), *[count(k) for k in range(len(boxes))])
                for field in range(numbers["fields"]):
                    counts = [told[2 + k][2:4] for k, box in enumerate(boxes) if box[4] == field]
                    sure = sum(pair[0] for pair in counts)
                    perhaps = sum(pair[1] for pair in counts)
                    self.assertLessEqual(sure, 1)
                    self.assertTrue(sure == 0 or perhaps == 0)
                    self.assertEqual(sure == 1, told[1][2 + field] < 16)
                    self.assertTrue(perhaps == 0 or told[1][2 + field] == 255)


if __name__ == "__main__":
    unittest.main()
