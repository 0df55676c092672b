"""The form of calls and answers; begin, fill and put (points 1 and 2)."""

import unittest

from farscreen.screen import UnknownCall, answers
from helper import (HELLO, ask_message, begin, begun, came, changed, colors, come, drained, fill, key_message, kept,
                    ones, put, started)

LEAST = -2147483648
MOST = 2147483647


def everywhere(w, h):
    return {(x, y) for x in range(w) for y in range(h)}


class AnswersTest(unittest.TestCase):
    def test_no_call(self):
        self.assertEqual(answers([]), [])

    def test_each_call_answers_one_number(self):
        calls = begin(4, 3, b"me") + fill(0, 0, 4, 3, 5) + put(1, 1, 2, 1, [7, 8]) + came(HELLO) + came(b"")
        self.assertEqual(answers(calls), ones(0, 0, 0, 1, 1))

    def test_refusals_are_their_number_alone(self):
        calls = begin(4, 3) + begin(0, 3) + fill(0, 0, 5, 3, 5) + put(0, 0, 0, 1) + came(b"")
        self.assertEqual(answers(calls), ones(0, -1, -1, -1, 0))

    def test_what_is_handed_in_stays(self):
        calls = begin(4, 3, b"me") + put(1, 1, 2, 1, [2 ** 24 + 7, 8]) + fill(0, 0, 1, 1, 2 ** 32 - 1)
        calls += came(HELLO + b"\1\1" + ask_message(0, 0, 0, 4, 3) + key_message(1, 65))
        before = list(calls)
        first = answers(calls)
        self.assertEqual(calls, before)
        self.assertEqual(answers(calls), first)
        self.assertEqual(calls, before)

    def test_nothing_is_kept_from_one_time_to_the_next(self):
        self.assertEqual(answers(begin(2, 2) + came(HELLO + b"\2")), ones(0, 4))
        self.assertEqual(answers(begin(2, 2) + came(b"")), ones(0, 0))

    def test_answers_are_whole_numbers(self):
        for number in answers(begin(2, 2) + fill(0, 0, 1, 1, 1) + fill(2, 0, 1, 1, 1) + came(HELLO)):
            self.assertIs(type(number), int)

    def test_three_hundred_calls(self):
        calls = begin(640, 480) + 299 * fill(0, 0, 640, 480, 1)
        self.assertEqual(answers(calls), ones(*[0] * 300))

    def test_number_of_no_call(self):
        for number in (0, 8, -1):
            with self.assertRaises(UnknownCall):
                answers(begin(1, 1) + [number])


class BeginTest(unittest.TestCase):
    def test_edges(self):
        for w in (1, 2, 639, 640):
            for h in (1, 2, 479, 480):
                for name in (b"", b"a", bytes(range(64)), b"\xff" * 64):
                    self.assertEqual(answers(begin(w, h, name)), ones(0))

    def test_a_new_screen(self):
        session = begun(5, 3, b"abc")
        self.assertEqual(colors(session), [[0] * 5] * 3)
        self.assertEqual(changed(session), everywhere(5, 3))
        self.assertEqual(bytes(session.line.waiting), HELLO)
        self.assertEqual(session.line.step, 0)
        self.assertEqual(session.line.events, [])
        self.assertIsNone(session.line.asked)

    def test_refused(self):
        for w, h in ((0, 1), (1, 0), (-1, 1), (1, -1), (641, 1), (1, 481), (LEAST, 1), (1, LEAST), (MOST, 1),
                     (1, MOST), (0, 0), (641, 481)):
            calls = begin(640, 480) + begin(w, h) + fill(639, 479, 1, 1, 3)
            self.assertEqual(answers(calls), ones(0, -1, 0), (w, h))

    def test_w_and_h_have_their_own_limits(self):
        self.assertEqual(answers(begin(480, 480) + begin(480, 640) + begin(640, 480)), ones(0, -1, 0))

    def test_refused_changes_nothing(self):
        session = started(4, 3, name=b"old")
        session.fill(1, 1, 2, 1, 9)
        come(session, key_message(1, 65) + ask_message(1, 0, 0, 2, 2) + b"\4\1\0")
        before = kept(session)
        for w, h in ((0, 3), (4, 0), (641, 3), (4, 481)):
            self.assertEqual(session.begin(w, h, []), -1)
            self.assertEqual(kept(session), before)
        self.assertEqual(come(session, b"\0\0\0\0\x42"), 3)
        self.assertEqual(session.line.events[-1], ((1, 1, 0x42, 0), []))

    def test_begins_again(self):
        session = started(4, 3, name=b"old")
        session.fill(1, 1, 2, 1, 9)
        come(session, key_message(1, 65) + ask_message(0, 0, 0, 2, 2) + b"\4\1\0")
        self.assertEqual(session.begin(2, 5, list(b"new")), 0)
        self.assertEqual(kept(session), kept(begun(2, 5, b"new")))
        come(session, HELLO + b"\1\1")
        self.assertTrue(drained(session).endswith(b"\0\0\0\3new"))

    def test_begins_again_after_close(self):
        self.assertEqual(answers(begin(2, 2) + came(b"x" * 12) + begin(2, 2) + came(HELLO)), ones(0, 4, 0, 1))

    def test_later_calls_are_about_the_last_screen(self):
        calls = begin(2, 2) + begin(5, 5) + fill(4, 4, 1, 1, 1) + begin(2, 2) + fill(4, 4, 1, 1, 1)
        self.assertEqual(answers(calls), ones(0, 0, 0, 0, -1))


# Each is refused on a screen of 6 by 5.
OUTSIDE = ((-1, 0, 1, 1), (0, -1, 1, 1), (0, 0, 0, 1), (0, 0, 1, 0), (0, 0, -1, 1), (0, 0, 1, -1), (0, 0, 7, 1),
           (0, 0, 1, 6), (6, 0, 1, 1), (0, 5, 1, 1), (5, 0, 2, 1), (0, 4, 1, 2), (1, 0, 6, 5), (0, 1, 6, 5),
           (LEAST, 0, 1, 1), (0, LEAST, 1, 1), (MOST, 0, 1, 1), (0, MOST, 1, 1), (0, 0, MOST, 1), (0, 0, 1, MOST),
           (0, 0, LEAST, 1), (0, 0, 1, LEAST), (MOST, MOST, MOST, MOST), (-1, 0, 2, 1), (0, -1, 1, 2),
           (6, 0, 0, 1), (-1, 0, 7, 5), (0, -1, 6, 6))

INSIDE = ((0, 0, 6, 5), (0, 0, 1, 1), (5, 0, 1, 1), (0, 4, 1, 1), (5, 4, 1, 1), (0, 0, 6, 1), (0, 4, 6, 1),
          (0, 0, 1, 5), (5, 0, 1, 5), (1, 1, 4, 3), (2, 3, 2, 1))


def points_of(x, y, w, h):
    return {(x + right, y + down) for right in range(w) for down in range(h)}


class FillTest(unittest.TestCase):
    def test_inside(self):
        for box in INSIDE:
            session = begun(6, 5)
            self.assertEqual(session.fill(*box, 0x123456), 0)
            inside = points_of(*box)
            expected = [[0x123456 if (x, y) in inside else 0 for x in range(6)] for y in range(5)]
            self.assertEqual(colors(session), expected, box)
            self.assertEqual(answers(begin(6, 5) + fill(*box, 1)), ones(0, 0))

    def test_refused(self):
        session = started(6, 5)
        session.fill(1, 1, 3, 3, 7)
        come(session, ask_message(0, 0, 0, 6, 5))
        before = kept(session)
        for box in OUTSIDE:
            self.assertEqual(session.fill(*box, 9), -1, box)
            self.assertEqual(kept(session), before, box)
            self.assertEqual(answers(begin(6, 5) + fill(*box, 9)), ones(0, -1))

    def test_colors_modulo(self):
        for color, stands in ((2 ** 24, 0), (2 ** 24 - 1, 0xFFFFFF), (2 ** 24 + 5, 5), (2 ** 32 - 1, 0xFFFFFF),
                              (0x7F010203, 0x010203)):
            session = begun(2, 1)
            self.assertEqual(session.fill(1, 0, 1, 1, color), 0)
            self.assertEqual(colors(session), [[0, stands]])

    def test_points_of_another_color_have_changed(self):
        session = started(6, 5)
        session.fill(2, 2, 2, 1, 7)
        come(session, ask_message(0, 0, 0, 6, 5))
        self.assertEqual(changed(session), set())
        session.fill(1, 2, 4, 1, 7)
        self.assertEqual(changed(session), {(1, 2), (4, 2)})
        session.fill(1, 2, 4, 1, 2 ** 24 + 7)
        self.assertEqual(changed(session), {(1, 2), (4, 2)})
        session.fill(2, 1, 1, 3, 0)
        self.assertEqual(changed(session), {(1, 2), (4, 2), (2, 2)})

    def test_a_point_that_changes_back_has_changed(self):
        session = started(3, 1)
        come(session, ask_message(0, 0, 0, 3, 1))
        session.fill(1, 0, 1, 1, 5)
        session.fill(1, 0, 1, 1, 0)
        self.assertEqual(changed(session), {(1, 0)})


class PutTest(unittest.TestCase):
    def test_inside(self):
        for box in INSIDE:
            x, y, w, h = box
            given = [1000 + place for place in range(w * h)]
            session = begun(6, 5)
            self.assertEqual(session.put(*box, list(given)), 0)
            expected = [[0] * 6 for row in range(5)]
            for place, color in enumerate(given):
                expected[y + place // w][x + place % w] = color
            self.assertEqual(colors(session), expected, box)
            self.assertEqual(answers(begin(6, 5) + put(*box, given)), ones(0, 0))

    def test_refused(self):
        session = started(6, 5)
        session.fill(1, 1, 3, 3, 7)
        come(session, ask_message(0, 0, 0, 6, 5))
        before = kept(session)
        for box in OUTSIDE:
            self.assertEqual(session.put(*box, []), -1, box)
            self.assertEqual(kept(session), before, box)
            self.assertEqual(answers(begin(6, 5) + put(*box)), ones(0, -1))

    def test_colors_modulo(self):
        session = begun(3, 1)
        self.assertEqual(session.put(0, 0, 3, 1, [2 ** 24, 2 ** 32 - 1, 0xAB0000CD]), 0)
        self.assertEqual(colors(session), [[0, 0xFFFFFF, 0xCD]])

    def test_points_of_another_color_have_changed(self):
        session = started(3, 2)
        come(session, ask_message(0, 0, 0, 3, 2))
        session.put(0, 0, 3, 2, [0, 1, 2 ** 24, 0, 0, 4])
        self.assertEqual(changed(session), {(1, 0), (2, 1)})
        session.put(0, 0, 3, 2, [0, 0, 3, 0, 0, 4])
        self.assertEqual(changed(session), {(1, 0), (2, 0), (2, 1)})

    def test_a_large_one(self):
        given = list(range(29000))
        session = begun(640, 480)
        self.assertEqual(session.put(60, 430, 580, 50, given), 0)
        self.assertEqual([color for row in colors(session)[430:] for color in row[60:]], given)
        self.assertEqual(answers(begin(640, 480) + put(60, 430, 580, 50, given)), ones(0, 0))


if __name__ == "__main__":
    unittest.main()
