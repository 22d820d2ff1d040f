"""Promise 1: oc_start, and when a sheet is right."""

import unittest

from making import ask, as_object, count, drawn, fields_told, places_of, sheet, show, start
from sheetreader.sheet import om_right

RIGHT = [0, 0]
NOT_RIGHT = [0, -22]
MOST = 4294967295


def one_box(x, y, w, h, field=0, zero=0):
    return [(x, y, w, h, field, zero)]


class Asking(unittest.TestCase):
    def right(self, numbers):
        self.assertEqual(ask(start(numbers)), [RIGHT])
        self.assertEqual(om_right(as_object(numbers)), 0)

    def wrong(self, numbers):
        self.assertEqual(ask(start(numbers)), [NOT_RIGHT])
        self.assertEqual(om_right(as_object(numbers)), -22)


class Measures(Asking):
    def test_an_ordinary_sheet(self):
        self.right(sheet(one_box(10, 10, 4, 4)))

    def test_width(self):
        for width, wanted in ((15, self.wrong), (16, self.right), (512, self.right), (513, self.wrong)):
            with self.subTest(width=width):
                wanted(sheet(one_box(7, 7, 2, 2), width=width, height=16, shift=0))

    def test_height(self):
        for height, wanted in ((15, self.wrong), (16, self.right), (512, self.right), (513, self.wrong)):
            with self.subTest(height=height):
                wanted(sheet(one_box(7, 7, 2, 2), width=16, height=height, shift=0))

    def test_shift(self):
        for shift, wanted in ((0, self.right), (15, self.right), (16, self.wrong)):
            with self.subTest(shift=shift):
                wanted(sheet(one_box(100, 100, 9, 9), width=300, height=300, shift=shift))

    def test_side(self):
        for side, wanted in ((0, self.wrong), (1, self.wrong), (2, self.right), (32, self.right), (33, self.wrong)):
            with self.subTest(side=side):
                wanted(sheet(one_box(100, 100, 9, 9), width=300, height=300, side=side))

    def test_dust_is_fewer_than_twice_the_side(self):
        for side in (2, 3, 32):
            for dust, wanted in ((0, self.right), (2 * side - 1, self.right), (2 * side, self.wrong)):
                with self.subTest(side=side, dust=dust):
                    wanted(sheet(one_box(100, 100, 9, 9), width=300, height=300, side=side, dust=dust))

    def test_noise(self):
        for noise, wanted in ((0, self.right), (31, self.right), (32, self.wrong)):
            with self.subTest(noise=noise):
                wanted(sheet(one_box(10, 10, 4, 4), noise=noise))

    def test_fill(self):
        for fill, wanted in ((1023, self.right), (1024, self.right), (1025, self.wrong)):
            with self.subTest(fill=fill):
                wanted(sheet(one_box(10, 10, 4, 4), fill=fill))

    def test_blank_is_below_fill(self):
        cases = ((0, 1, self.right), (0, 0, self.wrong), (599, 600, self.right), (600, 600, self.wrong),
                 (601, 600, self.wrong), (1023, 1024, self.right), (1024, 1024, self.wrong))
        for blank, fill, wanted in cases:
            with self.subTest(blank=blank, fill=fill):
                wanted(sheet(one_box(10, 10, 4, 4), fill=fill, blank=blank))

    def test_fields(self):
        for fields, wanted in ((0, self.wrong), (1, self.right), (64, self.right), (65, self.wrong)):
            with self.subTest(fields=fields):
                wanted(sheet(one_box(10, 10, 4, 4), fields=fields))

    def test_how_many_boxes(self):
        for boxes, wanted in ((0, self.wrong), (1, self.right), (256, self.right), (257, self.wrong),
                              (260, self.wrong)):
            with self.subTest(boxes=boxes):
                wanted(sheet([(10, 10, 4, 4, k % 64, 0) for k in range(boxes)]))

    def test_the_greatest_numbers(self):
        for name in ("width", "height", "shift", "side", "dust", "noise", "fill", "blank", "fields"):
            with self.subTest(name=name):
                numbers = sheet(one_box(10, 10, 4, 4))
                numbers[name] = MOST
                self.wrong(numbers)


class Corners(Asking):
    def moved(self, corner, x, y):
        """Corner number so and so moved by x, y; the box lies far from all zones."""
        numbers = sheet(one_box(18, 14, 2, 2))
        numbers["corners"][3 * corner] += x
        numbers["corners"][3 * corner + 1] += y
        return numbers

    def test_a_zone_lies_within_the_sheet(self):
        outward = ((0, -1, 0), (0, 0, -1), (1, 1, 0), (1, 0, -1), (2, -1, 0), (2, 0, 1), (3, 1, 0), (3, 0, 1))
        for corner, x, y in outward:
            with self.subTest(corner=corner, x=x, y=y):
                self.right(self.moved(corner, 0, 0))
                self.right(self.moved(corner, -x, -y))
                self.wrong(self.moved(corner, x, y))

    def test_a_zone_is_by_twice_the_shift_and_one_more(self):
        for shift in (0, 1, 7, 15):
            more = 2 * shift + 1
            for x, wanted in ((more, self.right), (more - 1, self.wrong)):
                with self.subTest(shift=shift, x=x):
                    numbers = sheet(one_box(145, 145, 9, 9), width=300, height=300, shift=shift)
                    numbers["corners"][0] = x
                    wanted(numbers)

    def test_a_corner_far_off(self):
        for place in (0, 1, 9, 10):
            with self.subTest(place=place):
                numbers = sheet(one_box(18, 14, 2, 2))
                numbers["corners"][place] = MOST
                self.wrong(numbers)

    def test_no_other_square_reaches_into_a_zone(self):
        # Zones are three more than the squares of two: side by side at a distance of five they just don't touch.
        cases = ((5, 0, self.right), (4, 0, self.wrong), (0, 5, self.right), (0, 4, self.wrong),
                 (5, 4, self.right), (4, 5, self.right), (4, 4, self.wrong), (0, 0, self.wrong),
                 (-4, 4, self.wrong), (-5, 4, self.right), (-4, 5, self.right))
        for x, y, wanted in cases:
            for one in range(4):
                for other in range(4):
                    if one != other:
                        with self.subTest(x=x, y=y, one=one, other=other):
                            numbers = sheet(one_box(2, 45, 2, 2), width=100, height=50)
                            corners = [3, 3, 0, 50, 3, 0, 70, 3, 0, 90, 3, 0]
                            corners[3 * one:3 * one + 2] = [30, 20]
                            corners[3 * other:3 * other + 2] = [30 + x, 20 + y]
                            numbers["corners"] = corners
                            wanted(numbers)

    def test_no_box_reaches_into_a_zone(self):
        # The first corner's zone is 10 to 17 either way, its square 13 and 14.
        corners = [13, 13, 0, 35, 3, 0, 3, 25, 0, 35, 25, 0]
        apart = ((18, 13, 1, 1), (9, 13, 1, 1), (13, 18, 1, 1), (13, 9, 1, 1), (18, 10, 3, 9), (8, 8, 2, 12),
                 (8, 8, 12, 2), (8, 18, 12, 3))
        within = ((17, 13, 1, 1), (10, 13, 1, 1), (13, 17, 1, 1), (13, 10, 1, 1), (17, 17, 3, 3), (8, 8, 3, 3),
                  (17, 8, 3, 3), (8, 17, 3, 3), (9, 9, 10, 10), (13, 13, 2, 2), (12, 12, 1, 1), (9, 13, 10, 1))
        for boxes, wanted in ((apart, self.right), (within, self.wrong)):
            for x, y, w, h in boxes:
                with self.subTest(x=x, y=y, w=w, h=h):
                    wanted(sheet(one_box(x, y, w, h), corners=corners))

    def test_no_box_reaches_into_any_zone(self):
        for corner, (x, y) in enumerate(((7, 7), (32, 7), (7, 22), (32, 22))):
            with self.subTest(corner=corner):
                self.wrong(sheet(one_box(15, 15, 2, 2) + one_box(x, y, 1, 1)))
        for x, y in ((8, 7), (7, 8), (31, 7), (32, 8), (8, 22), (7, 21), (31, 22), (32, 21)):
            with self.subTest(x=x, y=y):
                self.right(sheet(one_box(15, 15, 2, 2) + one_box(x, y, 1, 1)))

    def test_zero(self):
        for corner in range(4):
            for zero in (1, MOST):
                with self.subTest(corner=corner, zero=zero):
                    numbers = sheet(one_box(10, 10, 4, 4))
                    numbers["corners"][3 * corner + 2] = zero
                    self.wrong(numbers)

    def test_there_are_four(self):
        numbers = sheet(one_box(18, 14, 2, 2), width=60)
        for corners, wanted in ((numbers["corners"], 0), (numbers["corners"][:9], -22),
                                (numbers["corners"] + [30, 20, 0], -22)):
            with self.subTest(corners=len(corners)):
                other = dict(numbers)
                other["corners"] = corners
                self.assertEqual(om_right(as_object(other)), wanted)


class Boxes(Asking):
    def test_one_place_at_least_either_way(self):
        for w, h, wanted in ((1, 1, self.right), (0, 1, self.wrong), (1, 0, self.wrong), (0, 0, self.wrong)):
            with self.subTest(w=w, h=h):
                wanted(sheet(one_box(15, 15, w, h)))

    def test_the_greatest_either_way(self):
        self.right(sheet(one_box(20, 20, 127, 127), width=200, height=200))

    def test_shift_or_more_from_each_edge(self):
        for shift in (0, 1, 3):
            far = 60 - shift
            cases = ((shift, 28, 3, 3, self.right), (shift - 1, 28, 3, 3, self.wrong),
                     (28, shift, 3, 3, self.right), (28, shift - 1, 3, 3, self.wrong),
                     (far - 3, 28, 3, 3, self.right), (far - 2, 28, 3, 3, self.wrong),
                     (28, far - 3, 3, 3, self.right), (28, far - 2, 3, 3, self.wrong),
                     (28, 28, 3, far - 28, self.right), (28, 28, 3, far - 27, self.wrong),
                     (28, 28, far - 28, 3, self.right), (28, 28, far - 27, 3, self.wrong))
            for x, y, w, h, wanted in cases:
                if x >= 0 and y >= 0:
                    with self.subTest(shift=shift, x=x, y=y, w=w, h=h):
                        wanted(sheet(one_box(x, y, w, h), width=60, height=60, shift=shift))

    def test_far_off(self):
        self.wrong(sheet(one_box(1023, 15, 1, 1)))
        self.wrong(sheet(one_box(15, 1023, 1, 1)))

    def test_field_is_below_fields(self):
        for fields, field, wanted in ((1, 0, self.right), (1, 1, self.wrong), (5, 4, self.right),
                                      (5, 5, self.wrong), (64, 63, self.right), (63, 63, self.wrong)):
            with self.subTest(fields=fields, field=field):
                wanted(sheet(one_box(15, 15, 2, 2, field), fields=fields))

    def test_zero(self):
        for zero, wanted in ((0, self.right), (1, self.wrong), (MOST, self.wrong)):
            with self.subTest(zero=zero):
                wanted(sheet(one_box(15, 15, 2, 2, 0, zero)))

    def test_a_later_box_is_looked_at_too(self):
        fine = one_box(15, 15, 2, 2)
        for box in ((15, 15, 0, 2, 0, 0), (15, 15, 2, 2, 64, 0), (15, 15, 2, 2, 0, 1), (39, 15, 1, 1, 0, 0)):
            with self.subTest(box=box):
                self.wrong(sheet(fine + [box]))
                self.wrong(sheet([box] + fine))

    def test_a_field_has_sixteen_boxes_at_most(self):
        for field in (0, 2):
            boxes = []
            for k in range(16):
                boxes += one_box(10 + k, 12, 1, 1, field) + one_box(10 + k, 14, 1, 1, 1)
            self.right(sheet(boxes, fields=3))
            self.wrong(sheet(boxes + one_box(10, 16, 1, 1, field), fields=3))
            self.wrong(sheet(one_box(10, 16, 1, 1, 1) + boxes, fields=3))

    def test_boxes_may_lie_over_each_other(self):
        self.right(sheet(one_box(10, 10, 4, 4) + one_box(12, 12, 4, 4) + one_box(10, 10, 4, 4, 1)))


class WhatStartChanges(unittest.TestCase):
    def setUp(self):
        self.numbers = sheet(one_box(10, 10, 4, 4) + one_box(16, 10, 4, 4))
        self.picture = drawn(self.numbers, places_of(10, 10, 4, 4))
        self.other = sheet(one_box(12, 9, 3, 3, 5), width=32, height=30)
        self.wrong = sheet(one_box(12, 9, 3, 3, 5), noise=32)

    def test_nothing_is_counted_at_first(self):
        told = ask(start(self.numbers), count(0), count(1))
        self.assertEqual(told, [RIGHT, [1, 3, 0, 0, 0], [1, 3, 0, 0, 0]])

    def test_a_refused_one_changes_nothing(self):
        told = ask(start(self.numbers), show(self.picture), start(self.wrong), count(0), count(1),
                   show(self.picture), count(0))
        self.assertEqual(told, [RIGHT, fields_told({0: 0}), NOT_RIGHT, [1, 3, 1, 0, 1], [1, 3, 0, 0, 1],
                                fields_told({0: 0}), [1, 3, 2, 0, 2]])

    def test_a_refused_one_before_a_right_one(self):
        told = ask(start(self.wrong), start(self.wrong), start(self.numbers), show(self.picture), count(0))
        self.assertEqual(told, [NOT_RIGHT, NOT_RIGHT, RIGHT, fields_told({0: 0}), [1, 3, 1, 0, 1]])

    def test_the_same_again_counts_anew(self):
        told = ask(start(self.numbers), show(self.picture), start(self.numbers), count(0), count(1))
        self.assertEqual(told, [RIGHT, fields_told({0: 0}), RIGHT, [1, 3, 0, 0, 0], [1, 3, 0, 0, 0]])

    def test_another_one_is_this_sheet(self):
        shown = show(drawn(self.other, places_of(12, 9, 3, 3)))
        told = ask(start(self.numbers), show(self.picture), start(self.other), count(0), count(1), shown, count(0),
                   start(self.numbers), count(0), count(1))
        self.assertEqual(told, [RIGHT, fields_told({0: 0}), RIGHT, [1, 3, 0, 0, 0], NOT_RIGHT,
                                fields_told({5: 0}), [1, 3, 1, 0, 1], RIGHT, [1, 3, 0, 0, 0], [1, 3, 0, 0, 0]])


if __name__ == "__main__":
    unittest.main()
