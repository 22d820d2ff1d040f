"""Promises 2 and 3: oc_sheet and oc_count."""

import unittest

from making import (INK, PAPER, as_object, ask, count, drawn, fields_told, flat, places_of, put, sheet, show, squares,
                    start)
from sheetreader.tally import Tally

RIGHT = [0, 0]
EMPTY, FULL, UNSURE = 0, 1, 2
MOST = 4294967295


def row_of_boxes(fields):
    """Boxes of 2 by 2 places, of these fields, side by side in rows of 12 between the corners."""
    return [(8 + 2 * (k % 12), 8 + 2 * (k // 12), 2, 2, field, 0) for k, field in enumerate(fields)]


def ink_for(boxes, told):
    """Ink by which each box is told so, without dust: all of it, none, or half."""
    places = []
    for (x, y, w, h, field, zero), reading in zip(boxes, told):
        places += places_of(x, y, w, h)[:{EMPTY: 0, FULL: 4, UNSURE: 2}[reading]]
    return places


class Sheets(unittest.TestCase):
    def check(self, fields, told, wanted, sure=(), perhaps=()):
        """A sheet of such boxes, that are told so, is answered as wanted; these boxes are counted."""
        boxes = row_of_boxes(fields)
        numbers = sheet(boxes)
        picture = drawn(numbers, ink_for(boxes, told))
        calls = [start(numbers), show(picture)] + [count(k) for k in range(len(boxes))]
        counts = [[1, 3, int(k in sure), int(k in perhaps), 1] for k in range(len(boxes))]
        self.assertEqual(ask(*calls), [RIGHT, fields_told(wanted)] + counts)


class Fields(Sheets):
    def test_which_box(self):
        for chosen in range(5):
            told = [FULL if k == chosen else EMPTY for k in range(5)]
            with self.subTest(chosen=chosen):
                self.check([3] * 5, told, {3: chosen}, sure=[chosen])

    def test_which_box_of_its_own_field(self):
        self.check([7, 2, 7, 2, 7, 2], [EMPTY, EMPTY, EMPTY, EMPTY, FULL, FULL], {7: 2, 2: 2}, sure=[4, 5])

    def test_none(self):
        self.check([0, 0, 0], [EMPTY] * 3, {})

    def test_several(self):
        self.check([0, 0, 0], [FULL, EMPTY, FULL], {0: 254})
        self.check([0, 0, 0], [FULL, FULL, FULL], {0: 254})

    def test_unsure(self):
        self.check([0, 0, 0], [EMPTY, UNSURE, EMPTY], {0: 255}, perhaps=[1])
        self.check([0, 0, 0], [UNSURE, EMPTY, UNSURE], {0: 255}, perhaps=[0, 2])
        self.check([0], [UNSURE], {0: 255}, perhaps=[0])

    def test_one_full_and_one_unsure(self):
        self.check([0, 0, 0], [FULL, UNSURE, EMPTY], {0: 255}, perhaps=[0])
        self.check([0, 0, 0], [EMPTY, UNSURE, FULL], {0: 255}, perhaps=[2])
        self.check([0, 0, 0], [UNSURE, UNSURE, FULL], {0: 255}, perhaps=[2])

    def test_two_full_and_one_unsure(self):
        self.check([0, 0, 0], [FULL, UNSURE, FULL], {0: 254})
        self.check([0, 0, 0], [UNSURE, FULL, FULL], {0: 254})

    def test_each_field_by_itself(self):
        self.check([0, 1, 2, 3, 0, 1, 2, 3], [FULL, FULL, UNSURE, EMPTY, FULL, EMPTY, FULL, EMPTY],
                   {0: 254, 1: 0, 2: 255}, sure=[1], perhaps=[6])

    def test_a_field_without_a_box(self):
        self.check([0, 5], [FULL, FULL], {0: 0, 5: 0}, sure=[0, 1])

    def test_a_fields_sixteenth_box(self):
        self.check([1] + [0] * 16, [EMPTY] * 16 + [FULL], {0: 15}, sure=[16])
        self.check([1] + [0] * 16, [EMPTY] * 16 + [UNSURE], {0: 255}, perhaps=[16])
        self.check([1] + [0] * 16, [EMPTY, FULL] + [EMPTY] * 14 + [FULL], {0: 254})

    def test_the_last_field(self):
        self.check([63, 63, 0], [EMPTY, FULL, FULL], {63: 1, 0: 0}, sure=[1, 2])

    def test_253_from_fields_on(self):
        for fields in (1, 2, 63, 64):
            boxes = row_of_boxes([0, fields - 1])
            numbers = sheet(boxes, fields=fields)
            shown = show(drawn(numbers, ink_for(boxes, [EMPTY, UNSURE])))
            with self.subTest(fields=fields):
                told = ask(start(numbers), shown)[1]
                self.assertEqual(told, fields_told({fields - 1: 255}))
                self.assertEqual(told[2 + fields:], [253] * (64 - fields))

    def test_all_the_boxes_there_can_be(self):
        boxes = [(8 + k % 24, 8 + k // 24, 1, 1, k % 16, 0) for k in range(256)]
        numbers = sheet(boxes)
        shown = show(drawn(numbers, [(8 + 255 % 24, 8 + 255 // 24), (8, 8)]))
        told = ask(start(numbers), shown, count(255), count(0), count(1), count(256))
        self.assertEqual(told, [RIGHT, fields_told({15: 15, 0: 0}), [1, 3, 1, 0, 1], [1, 3, 1, 0, 1], [1, 3, 0, 0, 1],
                                [0, -22]])

    def test_boxes_of_different_fields_over_each_other(self):
        boxes = [(10, 10, 4, 4, 0, 0), (10, 10, 4, 4, 1, 0), (12, 10, 4, 4, 1, 0), (14, 10, 4, 4, 2, 0)]
        numbers = sheet(boxes)
        shown = show(drawn(numbers, places_of(10, 10, 4, 4)))
        told = ask(start(numbers), shown, count(0), count(1), count(2), count(3))
        self.assertEqual(told, [RIGHT, fields_told({0: 0, 1: 255}), [1, 3, 1, 0, 1], [1, 3, 0, 1, 1], [1, 3, 0, 0, 1],
                                [1, 3, 0, 0, 1]])

    def test_boxes_of_one_field_over_each_other(self):
        numbers = sheet([(10, 10, 4, 4, 0, 0), (10, 10, 4, 4, 0, 0)])
        told = ask(start(numbers), show(drawn(numbers, places_of(10, 10, 4, 4))), count(0), count(1))
        self.assertEqual(told, [RIGHT, fields_told({0: 254}), [1, 3, 0, 0, 1], [1, 3, 0, 0, 1]])

    def test_shifted(self):
        boxes = row_of_boxes([0, 0, 0, 1, 1, 1])
        numbers = sheet(boxes)
        for dx in (-1, 0, 1):
            for dy in (-1, 0, 1):
                shown = show(drawn(numbers, ink_for(boxes, [0, 1, 0, 0, 0, 1]), dx, dy))
                with self.subTest(dx=dx, dy=dy):
                    self.assertEqual(ask(start(numbers), shown)[1], fields_told({0: 1, 1: 2}))

    def test_of_several_best_shifts_the_first(self):
        # Ink for a shift of one place up and for one of one place left; the boxes are told by the former.
        numbers = sheet([(12, 12, 3, 3, 0, 0), (22, 12, 3, 3, 0, 0)])
        picture = put(numbers, drawn(numbers, dy=-1), squares(numbers, -1, 0))
        up = put(numbers, picture, places_of(12, 11, 3, 1) + places_of(12, 12, 3, 2))
        left = put(numbers, picture, places_of(21, 12, 1, 3) + places_of(22, 12, 2, 3))
        self.assertEqual(ask(start(numbers), show(up))[1], fields_told({0: 0}))
        self.assertEqual(ask(start(numbers), show(left))[1], fields_told({0: 255}))


class Refused(unittest.TestCase):
    def setUp(self):
        self.numbers = sheet([(10, 10, 4, 4, 0, 0)], noise=3, dust=1)
        self.full = places_of(10, 10, 4, 4)

    def test_too_faint(self):
        enough = drawn(self.numbers, self.full, paper=108, ink=100)
        faint = drawn(self.numbers, self.full, paper=107, ink=100)
        told = ask(start(self.numbers), show(faint), count(0), show(enough), count(0), show(faint), count(0))
        self.assertEqual(told, [RIGHT, [0, -61], [1, 3, 0, 0, 0], fields_told({0: 0}), [1, 3, 1, 0, 1], [0, -61],
                                [1, 3, 1, 0, 1]])

    def test_not_found(self):
        ink = squares(self.numbers)
        enough = put(self.numbers, drawn(self.numbers, self.full), [ink[0]], PAPER)
        lacking = put(self.numbers, enough, [ink[15]], PAPER)
        told = ask(start(self.numbers), show(lacking), count(0), show(enough), count(0), show(lacking), count(0))
        self.assertEqual(told, [RIGHT, [0, -2], [1, 3, 0, 0, 0], fields_told({0: 0}), [1, 3, 1, 0, 1], [0, -2],
                                [1, 3, 1, 0, 1]])

    def test_too_faint_comes_before_not_found(self):
        empty = flat(self.numbers)
        both = put(self.numbers, empty, places_of(20, 15, 2, 1), PAPER - 7)
        one = put(self.numbers, empty, places_of(20, 15, 2, 1), PAPER - 8)
        told = ask(start(self.numbers), show(both), show(one), count(0))
        self.assertEqual(told, [RIGHT, [0, -61], [0, -2], [1, 3, 0, 0, 0]])

    def test_the_most_sheets_that_are_counted(self):
        tally = Tally()
        self.assertEqual(tally.oc_start(as_object(self.numbers)), 0)
        picture = drawn(self.numbers, self.full)
        tally.counted = MOST - 1
        self.assertEqual(tally.oc_sheet(picture), fields_told({0: 0})[2:])
        self.assertEqual(tally.oc_count(0), [1, 0, MOST])
        self.assertEqual(tally.oc_sheet(picture), -28)
        self.assertEqual(tally.oc_count(0), [1, 0, MOST])

    def test_the_most_sheets_comes_before_what_the_picture_is_told(self):
        tally = Tally()
        tally.oc_start(as_object(self.numbers))
        tally.counted = MOST
        self.assertEqual(tally.oc_sheet(flat(self.numbers)), -28)
        self.assertEqual(tally.oc_sheet(put(self.numbers, flat(self.numbers), self.full)), -28)
        tally.counted = MOST - 1
        self.assertEqual(tally.oc_sheet(flat(self.numbers)), -61)
        self.assertEqual(tally.oc_sheet(put(self.numbers, flat(self.numbers), self.full)), -2)
        self.assertEqual(tally.oc_count(0), [0, 0, MOST - 1])

    def test_a_start_counts_anew_from_the_most(self):
        tally = Tally()
        tally.oc_start(as_object(self.numbers))
        tally.counted = MOST
        self.assertEqual(tally.oc_start(as_object(self.numbers)), 0)
        self.assertEqual(tally.oc_count(0), [0, 0, 0])


class Counts(unittest.TestCase):
    def setUp(self):
        self.boxes = row_of_boxes([0, 0, 0, 1])
        self.numbers = sheet(self.boxes)

    def shown(self, *told):
        return show(drawn(self.numbers, ink_for(self.boxes, told)))

    def counts(self):
        return [count(k) for k in range(4)]

    def test_no_box(self):
        told = ask(start(self.numbers), count(3), count(4), count(5), count(255), count(256), count(MOST))
        self.assertEqual(told, [RIGHT, [1, 3, 0, 0, 0]] + [[0, -22]] * 5)

    def test_no_box_changes_nothing(self):
        told = ask(start(self.numbers), self.shown(1, 0, 0, 1), count(4), *self.counts())
        self.assertEqual(told[2:], [[0, -22], [1, 3, 1, 0, 1], [1, 3, 0, 0, 1], [1, 3, 0, 0, 1], [1, 3, 1, 0, 1]])

    def test_after_several_sheets(self):
        calls = [self.shown(1, 0, 0, 0), self.shown(1, 0, 0, 1), self.shown(0, 2, 0, 1), self.shown(0, 2, 2, 0),
                 self.shown(0, 2, 1, 0), self.shown(1, 1, 0, 2), self.shown(0, 0, 0, 0), self.shown(0, 0, 1, 1)]
        told = ask(start(self.numbers), *calls, *self.counts())
        self.assertEqual(told[9:], [[1, 3, 2, 0, 8], [1, 3, 0, 2, 8], [1, 3, 1, 2, 8], [1, 3, 3, 1, 8]])

    def test_asking_twice_changes_nothing(self):
        told = ask(start(self.numbers), self.shown(1, 0, 0, 2), count(0), count(3), count(0), count(3))
        self.assertEqual(told[2:], [[1, 3, 1, 0, 1], [1, 3, 0, 1, 1]] * 2)

    def test_after_a_start_that_came_again(self):
        told = ask(start(self.numbers), self.shown(1, 0, 0, 2), self.shown(1, 0, 0, 2), start(self.numbers),
                   self.shown(0, 1, 0, 1), *self.counts())
        self.assertEqual(told[5:], [[1, 3, 0, 0, 1], [1, 3, 1, 0, 1], [1, 3, 0, 0, 1], [1, 3, 1, 0, 1]])

    def test_a_smaller_sheet_has_fewer_boxes(self):
        smaller = sheet(self.boxes[:1])
        told = ask(start(self.numbers), self.shown(1, 0, 0, 1), start(smaller), count(0), count(1), count(3))
        self.assertEqual(told[3:], [[1, 3, 0, 0, 0], [0, -22], [0, -22]])

    def test_sheets_that_are_refused_are_not_counted(self):
        told = ask(start(self.numbers), self.shown(1, 0, 0, 1), show(flat(self.numbers)),
                   show(put(self.numbers, flat(self.numbers), [(20, 15)], INK)), self.shown(1, 0, 0, 1), count(0))
        self.assertEqual(told[2:], [[0, -61], [0, -2], fields_told({0: 0, 1: 0}), [1, 3, 2, 0, 2]])


if __name__ == "__main__":
    unittest.main()
