"""The stage that promise 2 rests on: light, dark, the edge, the best shift, what each box is told."""

import unittest

from making import INK, PAPER, as_object, drawn, flat, places_of, put, sheet, squares
from sheetreader.picture import om_find, om_read

BOX = (10, 10, 4, 4, 0, 0)
NOWHERE = (20, 15)


def find(numbers, picture):
    return om_find(as_object(numbers), picture)


def read(numbers, picture):
    return om_read(as_object(numbers), picture)


class LightAndDark(unittest.TestCase):
    def edge(self, numbers, picture):
        return find(numbers, picture)[2]

    def test_without_dust_the_greatest_and_the_least(self):
        numbers = sheet([BOX])
        picture = put(numbers, drawn(numbers), [(20, 15)], 255)
        self.assertEqual(self.edge(numbers, picture), (255 + INK) // 2)
        picture = put(numbers, picture, [(21, 15)], 3)
        self.assertEqual(self.edge(numbers, picture), (255 + 3) // 2)

    def test_with_dust_so_many_are_left_out_on_either_side(self):
        numbers = sheet([BOX], dust=2)
        picture = put(numbers, drawn(numbers), [(20, 15), (22, 15)], 254)
        picture = put(numbers, picture, [(21, 15), (23, 15)], 4)
        self.assertEqual(self.edge(numbers, picture), (PAPER + INK) // 2)
        brighter = put(numbers, picture, [(24, 15)], 240)
        self.assertEqual(self.edge(numbers, brighter), (240 + INK) // 2)
        darker = put(numbers, picture, [(24, 15)], 20)
        self.assertEqual(self.edge(numbers, darker), (PAPER + 20) // 2)

    def test_the_edge_is_rounded_down(self):
        for ink, paper, edge in ((50, 200, 125), (50, 201, 125), (51, 200, 125), (51, 201, 126), (0, 255, 127)):
            with self.subTest(ink=ink, paper=paper):
                numbers = sheet([BOX])
                self.assertEqual(self.edge(numbers, drawn(numbers, paper=paper, ink=ink)), edge)

    def test_what_is_not_above_the_edge_is_ink(self):
        # The edge is 125 with paper of 200 or of 201.
        numbers = sheet([BOX])
        for paper in (200, 201):
            clean = drawn(numbers, paper=paper)
            for brightness, told in ((124, 1), (125, 1), (126, 0)):
                with self.subTest(paper=paper, brightness=brightness):
                    self.assertEqual(read(numbers, put(numbers, clean, places_of(10, 10, 4, 4), brightness)), [told])

    def test_too_faint(self):
        for noise in (0, 1, 31):
            for dark in (0, 100, 126):
                numbers = sheet([BOX], noise=noise)
                enough = dark + 2 * noise + 2
                with self.subTest(noise=noise, dark=dark):
                    self.assertEqual(find(numbers, drawn(numbers, paper=enough - 1, ink=dark)), -61)
                    self.assertEqual(read(numbers, drawn(numbers, paper=enough - 1, ink=dark)), -61)
                    self.assertEqual(find(numbers, drawn(numbers, paper=enough, ink=dark)),
                                     (0, 0, (enough + dark) // 2, 16))

    def test_too_faint_but_for_the_dust(self):
        numbers = sheet([BOX], dust=3)
        picture = flat(numbers, 100)
        picture = put(numbers, picture, places_of(20, 15, 3, 1), 255)
        picture = put(numbers, picture, places_of(20, 16, 3, 1), 0)
        self.assertEqual(find(numbers, picture), -61)

    def test_all_of_one_brightness_is_too_faint(self):
        for brightness in (0, 127, 128, 255):
            with self.subTest(brightness=brightness):
                self.assertEqual(find(sheet([BOX]), flat(sheet([BOX]), brightness)), -61)

    def test_bytes_of_127_and_128(self):
        numbers = sheet([BOX])
        full = places_of(10, 10, 4, 4)
        self.assertEqual(find(numbers, drawn(numbers, paper=128, ink=127)), -61)
        self.assertEqual(find(numbers, drawn(numbers, paper=127, ink=128)), -61)
        self.assertEqual(find(numbers, drawn(numbers, paper=128, ink=126)), (0, 0, 127, 16))
        self.assertEqual(find(numbers, drawn(numbers, paper=129, ink=127)), (0, 0, 128, 16))
        self.assertEqual(read(numbers, put(numbers, drawn(numbers, paper=128, ink=126), full, 127)), [1])
        self.assertEqual(read(numbers, put(numbers, drawn(numbers, paper=129, ink=126), full, 128)), [0])


class BestShift(unittest.TestCase):
    def test_every_shift(self):
        for shift in (0, 1, 3):
            numbers = sheet([(28, 20, 4, 4, 0, 0)], width=61, height=47, shift=shift, side=3)
            for dy in range(-shift, shift + 1):
                for dx in range(-shift, shift + 1):
                    with self.subTest(shift=shift, dx=dx, dy=dy):
                        self.assertEqual(find(numbers, drawn(numbers, dx=dx, dy=dy)), (dx, dy, 125, 36))

    def test_the_greatest_shift_and_side(self):
        numbers = sheet([(94, 78, 1, 1, 0, 0)], width=189, height=157, shift=15, side=32)
        self.assertEqual(find(numbers, drawn(numbers, dx=-15, dy=15)), (-15, 15, 125, 4096))
        self.assertEqual(find(numbers, drawn(numbers, dx=15, dy=-15)), (15, -15, 125, 4096))

    def several(self, numbers, shifts):
        """A picture that has all its squares' ink by each of these shifts."""
        picture = flat(numbers)
        for dx, dy in shifts:
            picture = put(numbers, picture, squares(numbers, dx, dy))
        return picture

    def test_of_several_the_first(self):
        numbers = sheet([BOX])
        every = [(dx, dy) for dy in (-1, 0, 1) for dx in (-1, 0, 1)]
        for shifts, first in (([(-1, 0), (1, 0)], (-1, 0)), ([(0, 1), (0, -1)], (0, -1)),
                              ([(-1, 0), (0, -1)], (0, -1)), ([(1, 0), (0, 1)], (1, 0)),
                              ([(0, 0), (1, 0)], (0, 0)), ([(0, 0), (0, 1)], (0, 0)),
                              ([(-1, 1), (0, 1)], (-1, 1)), (every, (-1, -1))):
            with self.subTest(shifts=shifts):
                self.assertEqual(find(numbers, self.several(numbers, shifts)), first + (125, 16))

    def test_the_most_comes_before_the_first(self):
        numbers = sheet([BOX], dust=3)
        picture = self.several(numbers, [(-1, -1), (1, 1)])
        lacking = put(numbers, picture, squares(numbers, -1, -1)[:1], PAPER)
        self.assertEqual(find(numbers, lacking), (1, 1, 125, 16))

    def test_boxes_are_read_by_the_best_shift(self):
        numbers = sheet([(20, 20, 4, 4, 0, 0), (30, 20, 4, 4, 0, 0)], shift=3, width=60, height=60)
        for dx, dy in ((-3, -3), (3, -1), (0, 2), (3, 3)):
            with self.subTest(dx=dx, dy=dy):
                self.assertEqual(read(numbers, drawn(numbers, places_of(30, 20, 4, 4), dx, dy)), [0, 1])

    def test_a_box_at_the_edge_moved_to_the_pictures_edge(self):
        numbers = sheet([(15, 1, 3, 3, 0, 0), (38, 13, 1, 2, 1, 0), (15, 28, 4, 1, 2, 0), (1, 12, 2, 2, 3, 0)])
        boxes = (places_of(15, 1, 3, 3), places_of(38, 13, 1, 2), places_of(15, 28, 4, 1), places_of(1, 12, 2, 2))
        for dx in (-1, 1):
            for dy in (-1, 1):
                for k, box in enumerate(boxes):
                    with self.subTest(dx=dx, dy=dy, k=k):
                        self.assertEqual(read(numbers, drawn(numbers, box, dx, dy)),
                                         [1 if j == k else 0 for j in range(4)])

    def test_not_found(self):
        for dust in (0, 3):
            numbers = sheet([BOX], dust=dust)
            ink = squares(numbers)
            for lacking, wanted in ((dust, (0, 0, 125, 16 - dust)), (dust + 1, -2)):
                with self.subTest(dust=dust, lacking=lacking):
                    # One from each square, so that no other shift has more.
                    picture = put(numbers, drawn(numbers), [ink[4 * k] for k in range(lacking)], PAPER)
                    self.assertEqual(find(numbers, picture), wanted)

    def test_not_found_as_it_is_not_there(self):
        numbers = sheet([BOX], dust=3)
        picture = put(numbers, flat(numbers), places_of(10, 10, 4, 4))
        self.assertEqual(find(numbers, picture), -2)
        self.assertEqual(read(numbers, picture), -2)

    def test_not_found_beyond_the_shift(self):
        numbers = sheet([BOX])
        for dx, dy in ((2, 0), (-2, 0), (0, 2), (0, -2)):
            with self.subTest(dx=dx, dy=dy):
                self.assertEqual(find(numbers, drawn(numbers, dx=dx, dy=dy)), -2)

    def test_too_faint_comes_before_not_found(self):
        numbers = sheet([BOX], noise=5)
        picture = put(numbers, flat(numbers, 100), [NOWHERE], 89)
        self.assertEqual(find(numbers, picture), -61)
        self.assertEqual(find(numbers, put(numbers, picture, [NOWHERE], 88)), -2)

    def test_a_sheet_that_is_not_right_comes_first(self):
        numbers = sheet([BOX], noise=32)
        self.assertEqual(find(numbers, flat(numbers)), -22)
        self.assertEqual(read(numbers, []), -22)


class Told(unittest.TestCase):
    def told(self, has, w, h, dust, fill, blank):
        numbers = sheet([(10, 10, w, h, 0, 0)], width=60, height=60, dust=dust, fill=fill, blank=blank)
        return read(numbers, drawn(numbers, places_of(10, 10, w, h)[:has]))[0]

    def test_without_dust(self):
        # Of 32 places fill is 16 and blank 8.
        for has, wanted in ((0, 0), (7, 0), (8, 0), (9, 2), (15, 2), (16, 1), (17, 1), (32, 1)):
            with self.subTest(has=has):
                self.assertEqual(self.told(has, 8, 4, 0, 512, 256), wanted)

    def test_with_dust(self):
        # It can be full from 13 on, blank up to 11.
        for has, wanted in ((0, 0), (2, 0), (11, 0), (12, 2), (13, 1), (32, 1)):
            with self.subTest(has=has):
                self.assertEqual(self.told(has, 8, 4, 3, 512, 256), wanted)

    def test_with_dust_it_may_be_either(self):
        # It can be full from 7 on, blank up to 11.
        for has, wanted in ((6, 0), (7, 2), (11, 2), (12, 1)):
            with self.subTest(has=has):
                self.assertEqual(self.told(has, 8, 4, 3, 320, 256), wanted)

    def test_no_fewer_than_none_but_for_the_dust(self):
        for has, wanted in ((0, 2), (1, 2), (3, 2), (4, 1)):
            with self.subTest(has=has):
                self.assertEqual(self.told(has, 2, 2, 3, 512, 0), wanted)

    def test_parts_of_a_place(self):
        # Of 9 places fill is 5 and a bit, blank 4 less a bit.
        for has, wanted in ((3, 0), (4, 2), (5, 2), (6, 1)):
            with self.subTest(has=has):
                self.assertEqual(self.told(has, 3, 3, 0, 569, 455), wanted)

    def test_the_greatest_fill_and_the_least_blank(self):
        for has, wanted in ((0, 0), (1, 2), (15, 2), (16, 1)):
            with self.subTest(has=has):
                self.assertEqual(self.told(has, 4, 4, 0, 1024, 0), wanted)

    def test_a_box_of_one_place(self):
        self.assertEqual(self.told(0, 1, 1, 0, 600, 200), 0)
        self.assertEqual(self.told(1, 1, 1, 0, 600, 200), 1)
        # One speck may be all that's in it.
        self.assertEqual(self.told(0, 1, 1, 1, 600, 200), 2)
        self.assertEqual(self.told(1, 1, 1, 1, 600, 200), 2)

    def test_a_wide_box_is_not_a_high_one(self):
        numbers = sheet([(10, 10, 7, 2, 0, 0), (10, 10, 2, 7, 1, 0)])
        self.assertEqual(read(numbers, drawn(numbers, places_of(10, 10, 7, 2))), [1, 2])
        self.assertEqual(read(numbers, drawn(numbers, places_of(10, 10, 2, 7))), [2, 1])

    def test_only_its_own_places(self):
        around = [place for place in places_of(9, 9, 6, 6) if place not in places_of(10, 10, 4, 4)]
        numbers = sheet([BOX], blank=0, fill=1)
        self.assertEqual(read(numbers, drawn(numbers, around)), [0])
        for place in places_of(10, 10, 4, 4):
            with self.subTest(place=place):
                self.assertEqual(read(numbers, drawn(numbers, around + [place])), [1])


class StageCorners(unittest.TestCase):
    def test_no_shift(self):
        numbers = sheet([(7, 7, 2, 2, 0, 0)], width=16, height=16, shift=0)
        self.assertEqual(find(numbers, drawn(numbers)), (0, 0, 125, 16))
        self.assertEqual(read(numbers, drawn(numbers)), [0])
        self.assertEqual(read(numbers, drawn(numbers, places_of(7, 7, 2, 2))), [1])

    def test_dust_of_twice_the_side_less_one(self):
        # All of it lies in the squares, along one side of one of them.
        for side in (2, 5):
            dust = 2 * side - 1
            numbers = sheet([(15, 15, 10, 10, 0, 0)], width=60, height=60, side=side, dust=dust)
            for dx in (-1, 0, 1):
                picture = drawn(numbers, places_of(15, 15, 10, 10), dx)
                picture = put(numbers, picture, squares(numbers, dx)[:dust], PAPER)
                with self.subTest(side=side, dx=dx):
                    self.assertEqual(find(numbers, picture), (dx, 0, 125, 4 * side * side - dust))
                    self.assertEqual(read(numbers, picture), [1])

    def test_dust_that_makes_another_shift_look_better(self):
        numbers = sheet([BOX], dust=3)
        ink = squares(numbers)
        beside = [place for place in squares(numbers, 1) if place not in ink]
        picture = put(numbers, drawn(numbers), beside[:3])
        self.assertEqual(find(numbers, picture)[:2], (0, 0))

    def test_paper_just_bright_enough(self):
        # Paper and ink are 4 * noise + 2 apart, and noise brings them nearer.
        for noise in (0, 1, 31):
            numbers = sheet([BOX, (20, 10, 4, 4, 0, 0)], noise=noise)
            ink = 60 + noise
            paper = 60 + 4 * noise + 2 - noise
            with self.subTest(noise=noise):
                picture = drawn(numbers, places_of(10, 10, 4, 4), 1, 1, paper, ink)
                self.assertEqual(read(numbers, picture), [1, 0])
                picture = put(numbers, picture, [NOWHERE], paper + 2 * noise)
                picture = put(numbers, picture, squares(numbers, 1, 1)[:1], 60 - noise)
                self.assertEqual(read(numbers, picture), [1, 0])

    def test_widths_that_are_no_multiple_of_8(self):
        for width in range(33, 41):
            numbers = sheet([BOX, (width - 15, 12, 5, 3, 1, 0)], width=width, height=31)
            with self.subTest(width=width):
                self.assertEqual(read(numbers, drawn(numbers, places_of(10, 10, 4, 4), 1, -1)), [1, 0])
                self.assertEqual(read(numbers, drawn(numbers, places_of(width - 15, 12, 5, 3), -1, 1)), [0, 1])

    def test_dust_in_a_corners_square(self):
        numbers = sheet([BOX], dust=2)
        for brightness in (PAPER, 255):
            picture = put(numbers, drawn(numbers, places_of(10, 10, 4, 4)), squares(numbers)[4:6], brightness)
            self.assertEqual(find(numbers, picture), (0, 0, 125, 14))
            self.assertEqual(read(numbers, picture), [1])

    def test_all_dust_in_one_box(self):
        # Of 16 places fill is 10 at least, blank 3 at most; dust of 3 feigns or hides ink.
        numbers = sheet([BOX], dust=3)
        for blackened, wanted in ((0, 0), (3, 0), (6, 0), (7, 1), (10, 1), (16, 1)):
            with self.subTest(blackened=blackened):
                self.assertEqual(read(numbers, drawn(numbers, places_of(10, 10, 4, 4)[:blackened])), [wanted])

    def test_a_sheet_that_is_not_there(self):
        numbers = sheet([BOX], noise=4)
        self.assertEqual(read(numbers, flat(numbers)), -61)
        self.assertEqual(read(numbers, [PAPER + k % 9 for k in range(40 * 30)]), -61)
        self.assertEqual(read(numbers, put(numbers, flat(numbers), places_of(12, 3, 12, 20))), -2)

    def test_boxes_full_side_by_side(self):
        numbers = sheet([(8 + 4 * k, 10, 4, 4, k, 0) for k in range(6)])
        for chosen in ((0, 1), (1, 2, 3), (0, 5), (0, 1, 2, 3, 4, 5)):
            ink = [place for k in chosen for place in places_of(8 + 4 * k, 10, 4, 4)]
            with self.subTest(chosen=chosen):
                self.assertEqual(read(numbers, drawn(numbers, ink, -1, 1)), [1 if k in chosen else 0 for k in range(6)])


if __name__ == "__main__":
    unittest.main()
