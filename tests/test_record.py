"""The interface: how calls and answers are laid out in numbers, and what answers leaves alone."""

import builtins
import contextlib
import io
import sys
import unittest
from unittest import mock

from making import ask, count, drawn, fields_told, flat, places_of, put, sheet, show, start
from sheetreader.record import answers

NONE = 253

START = [
    0, 16, 16, 0, 2, 0, 0, 600, 200, 3,
    12, 1, 1, 0, 13, 1, 0, 1, 13, 0, 13, 13, 0,
    18, 6, 6, 2, 2, 0, 0, 9, 6, 1, 1, 0, 0, 6, 9, 1, 2, 2, 0,
]
PAPER_ROW = [90] * 16
CORNER_ROW = [90, 9, 9, 90, 90, 90, 90, 90, 90, 90, 90, 90, 90, 9, 9, 90]
PICTURE = (
    PAPER_ROW + CORNER_ROW * 2 + PAPER_ROW * 3
    + [90] * 9 + [9] + [90] * 6
    + PAPER_ROW * 2
    + ([90] * 6 + [9] + [90] * 9) * 2
    + PAPER_ROW * 2 + CORNER_ROW * 2 + PAPER_ROW
)


class Watched(list):
    """A list that can't be changed, not for a while either."""

    def refuse(self, *given, **named):
        raise AssertionError("what is handed in is changed")

    append = clear = extend = insert = pop = remove = reverse = sort = refuse
    __setitem__ = __delitem__ = __iadd__ = __imul__ = refuse


class Form(unittest.TestCase):
    def test_every_call_in_numbers(self):
        calls = (
            START + [2, 0] + [1, 256] + PICTURE + [2, 0] + [2, 1] + [2, 2] + [2, 3]
            + [1, 256] + [90] * 256 + [1, 256] + [90] * 255 + [9]
        )
        wanted = (
            [2, 0, 0] + [5, 1, 3, 0, 0, 0]
            + [66, 1, 64, 1, NONE, 0] + [NONE] * 61
            + [5, 1, 3, 0, 0, 1] + [5, 1, 3, 1, 0, 1] + [5, 1, 3, 1, 0, 1] + [2, 0, -22]
            + [2, 0, -61] + [2, 0, -2]
        )
        self.assertEqual(answers(calls), wanted)

    def test_a_refused_start_and_one_again_in_numbers(self):
        for place in (1, 2, 3, 4, 5, 6, 7, 8, 9, 11, 12, 13, 22, 29, 41):
            refused = list(START)
            refused[place] = 4294967295
            with self.subTest(place=place):
                calls = refused + START + [1, 256] + PICTURE + refused + [2, 2] + START + [2, 2]
                self.assertEqual(answers(calls), [2, 0, -22, 2, 0, 0] + [66, 1, 64, 1, NONE, 0] + [NONE] * 61
                                 + [2, 0, -22] + [5, 1, 3, 1, 0, 1] + [2, 0, 0] + [5, 1, 3, 0, 0, 0])

    def test_one_call_alone(self):
        self.assertEqual(answers(START), [2, 0, 0])
        self.assertEqual(answers(START[:23] + [0]), [2, 0, -22])

    def test_more_boxes_than_there_may_be(self):
        for boxes, number in ((256, 0), (257, -22), (260, -22)):
            many = [number for k in range(boxes) for number in (6, 6, 2, 2, k % 20, 0)]
            calls = START[:9] + [20] + START[10:23] + [len(many)] + many
            with self.subTest(boxes=boxes):
                self.assertEqual(answers(calls + START), [2, 0, number, 2, 0, 0])

    def test_whole_numbers_in_a_list(self):
        given = answers(START + [1, 256] + PICTURE + [2, 1] + [2, 3])
        self.assertIs(type(given), list)
        self.assertEqual({type(number) for number in given}, {int})


class LeftAlone(unittest.TestCase):
    calls = START + [1, 256] + PICTURE + [2, 0] + [1, 256] + [90] * 256 + START + [2, 0]

    def test_what_is_handed_in_is_not_changed(self):
        before = list(self.calls)
        answers(self.calls)
        self.assertEqual(self.calls, before)
        self.assertEqual(answers(Watched(before)), answers(before))

    def test_a_second_time_is_as_the_first(self):
        first = answers(self.calls)
        other = answers(START + [2, 1])
        self.assertEqual(other, [2, 0, 0, 5, 1, 3, 0, 0, 0])
        self.assertEqual(answers(self.calls), first)

    def test_what_is_given_back_is_the_callers(self):
        first = answers(self.calls)
        kept = list(first)
        first[0] = 77
        first.append(78)
        self.assertEqual(answers(self.calls), kept)

    def test_nothing_is_kept_of_another_list(self):
        answers(START + ([1, 256] + PICTURE) * 3)
        self.assertEqual(answers(START + [2, 1]), [2, 0, 0, 5, 1, 3, 0, 0, 0])

    def test_it_prints_reads_and_imports_nothing(self):
        wanted = answers(self.calls)
        printed = io.StringIO()
        refuse = mock.Mock(side_effect=AssertionError("not asked for"))
        with contextlib.redirect_stdout(printed), contextlib.redirect_stderr(printed):
            with mock.patch.object(builtins, "open", refuse), mock.patch.object(builtins, "input", refuse):
                with mock.patch.object(builtins, "__import__", refuse):
                    given = answers(self.calls)
        self.assertEqual(given, wanted)
        self.assertEqual(printed.getvalue(), "")


class Long(unittest.TestCase):
    def asked(self, calls):
        """Answered within some calls of one another: what is long is gone through by loops."""
        depth = 0
        frame = sys._getframe()
        while frame is not None:
            depth += 1
            frame = frame.f_back
        limit = sys.getrecursionlimit()
        sys.setrecursionlimit(depth + 40)
        try:
            return answers(calls)
        finally:
            sys.setrecursionlimit(limit)

    def test_3000_calls(self):
        given = self.asked(START + [2, 1] * 2999)
        self.assertEqual(given, [2, 0, 0] + [5, 1, 3, 0, 0, 0] * 2999)

    def test_many_starts(self):
        calls = START * 714
        self.assertLessEqual(len(calls), 30000)
        self.assertEqual(self.asked(calls), [2, 0, 0] * 714)

    def test_many_sheets(self):
        calls = START + ([1, 256] + PICTURE) * 115 + [2, 2]
        self.assertLessEqual(len(calls), 30000)
        self.assertEqual(self.asked(calls)[-6:], [5, 1, 3, 115, 0, 115])

    def test_the_widest_search(self):
        numbers = sheet([(94, 78, 1, 1, 0, 0)], width=189, height=157, shift=15, side=32, dust=63, noise=31)
        calls = start(numbers) + show(drawn(numbers, [(94, 78)], 15, 15)) + count(0)
        self.assertLessEqual(len(calls), 30000)
        self.assertEqual(self.asked(calls)[-6:], [5, 1, 3, 0, 1, 1])

    def test_many_wide_boxes(self):
        boxes = [(15, 15, 127, 127, k % 64, 0) for k in range(256)]
        numbers = sheet(boxes, width=168, height=168, corners=[1, 1, 0, 165, 1, 0, 1, 165, 0, 165, 165, 0], shift=0)
        calls = start(numbers) + show(drawn(numbers, places_of(15, 15, 127, 127))) + count(255)
        self.assertLessEqual(len(calls), 30000)
        given = self.asked(calls)
        self.assertEqual(given[:3], [2, 0, 0])
        self.assertEqual(given[3:-6], [66] + fields_told({field: 254 for field in range(64)}))

    def test_a_wide_and_low_picture(self):
        numbers = sheet([(250, 6, 3, 3, 0, 0)], width=512, height=16, shift=0)
        shown = show(drawn(numbers, places_of(250, 6, 3, 3)))
        self.assertEqual(ask(start(numbers), shown, shown, shown, count(0))[-1], [1, 3, 3, 0, 3])

    def test_a_narrow_and_high_picture(self):
        numbers = sheet([(6, 250, 3, 3, 0, 0), (6, 350, 3, 3, 0, 0)], width=16, height=512, shift=0)
        shown = show(drawn(numbers, places_of(6, 350, 3, 3)))
        told = ask(start(numbers), shown, show(flat(numbers)), show(put(numbers, flat(numbers), [(3, 3)])), count(1))
        self.assertEqual(told, [[0, 0], fields_told({0: 1}), [0, -61], [0, -2], [1, 3, 1, 0, 1]])


if __name__ == "__main__":
    unittest.main()
