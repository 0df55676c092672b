"""The form of calls and answers; begin, fill and put (points 1 and 2)."""

import unittest

from farscreen.screen import UnknownCall, answers
from helper import (HELLO, LEAST_NUMBER as LEAST, MOST_NUMBER as MOST, SMALL, ask_message, begin, begun, came, changed,
                    colors, event, fill, form_message, key_event, key_message, ones, output, parted, put, seen,
                    seen_by_viewer, sent, started, text_message, told, ways_message)


class AnswersTest(unittest.TestCase):
    def test_no_call(self):
        self.assertEqual(answers([]), [])

    def test_calls_that_answer_one_number(self):
        calls = begin(4, 3, b"me") + fill(0, 0, 4, 3, 5) + put(1, 1, 2, 1, [7, 8]) + came(HELLO) + came(b"")
        self.assertEqual(answers(calls), ones(0, 0, 0, 1, 1))

    def test_calls_that_answer_several(self):
        calls = begin(4, 3) + output(3) + told() + came(HELLO + b"\1\1" + text_message(b"abc") + key_message(1, 9))
        calls += event(3) + event(0) + told() + output(0)
        self.assertEqual(answers(calls), [1, 0] + [4, 3, 82, 70, 66] + [5, 0, 0, 9, 0, 12] + [1, 3] +
                         [8, 3, 97, 98, 99, 3, 3, 0, 0] + [5, 0, 1, 1, 9, 0] + [5, 0, 3, 39, 0, 12] + [1, 0])

    def test_refusals_are_their_number_alone(self):
        calls = begin(4, 3) + begin(0, 3) + fill(0, 0, 5, 3, 5) + put(0, 0, 0, 1) + came(b"")
        self.assertEqual(answers(calls), ones(0, -1, -1, -1, 0))
        calls = begin(4, 3) + output(-1) + event(-1) + event(0)
        calls += came(HELLO + b"\1\1" + text_message(b"ab")) + event(1) + event(4097) + output(2097153)
        self.assertEqual(answers(calls), ones(0, -1, -1, -2, 3, -6, -1, -1))

    def all_calls(self):
        calls = begin(4, 3, b"me") + put(1, 1, 2, 1, [2 ** 24 + 7, 8]) + fill(0, 0, 1, 1, 2 ** 32 - 1)
        calls += came(HELLO + b"\1\1" + ask_message(0, 0, 0, 4, 3) + key_message(1, 65) + text_message(b"some text"))
        calls += told() + output(20) + output() + output(5) + event() + event(8) + event(9) + event() + told()
        calls += output(-1) + event(-1) + fill(4, 0, 1, 1, 1) + put(0, 0, 5, 1) + begin(0, 0) + output() + told()
        return calls + begin(3, 2, b"you") + came(HELLO + b"\2") + output() + output() + event() + told()

    def test_what_is_handed_in_stays(self):
        calls = self.all_calls()
        before = list(calls)
        first = answers(calls)
        self.assertEqual(calls, before)
        self.assertEqual(answers(calls), first)
        self.assertEqual(calls, before)

    def test_what_is_given_back_is_a_list_of_its_own(self):
        calls = self.all_calls()
        first = answers(calls)
        again = list(first)
        first.clear()
        self.assertEqual(answers(calls), again)

    def test_nothing_is_kept_from_one_time_to_the_next(self):
        self.assertEqual(answers(begin(2, 2) + came(HELLO + b"\2")), ones(0, 4))
        self.assertEqual(answers(begin(2, 2) + came(b"")), ones(0, 0))
        answers(begin(2, 2) + came(HELLO + b"\1\1" + key_message(1, 1) + ask_message(0, 0, 0, 2, 2)) + output())
        self.assertEqual(parted(answers(begin(2, 2) + told() + output() + event())),
                         [[0], [0, 0, 12, 0, 4], sent(HELLO), [-2]])

    def test_all_beginnings_of_a_list_answer_the_same(self):
        calls = self.all_calls()
        whole = answers(calls)
        self.assertEqual(len(parted(whole)), 26)
        for length in (0, 6, 14, 20):
            part = answers(calls[:length])
            self.assertEqual(part, whole[:len(part)])

    def test_answers_are_whole_numbers(self):
        given = answers(self.all_calls())
        self.assertIs(type(given), list)
        for number in given:
            self.assertIs(type(number), int)

    def test_three_hundred_calls(self):
        calls = begin(640, 480) + 299 * fill(0, 0, 640, 480, 1)
        self.assertEqual(answers(calls), ones(*[0] * 300))
        calls = begin(640, 480) + 299 * told()
        self.assertEqual(answers(calls), [1, 0] + 299 * [5, 0, 0, 12, 0, 307200])

    def test_number_of_no_call(self):
        for number in (0, 8, -1):
            with self.assertRaises(UnknownCall):
                answers(begin(1, 1) + [number])


class BeginTest(unittest.TestCase):
    def test_edges(self):
        for w in (1, 2, 639, 640):
            for h in (1, 2, 479, 480):
                for name in (b"", b"a", bytes(range(64)), b"\xff" * 64):
                    self.assertEqual(answers(begin(w, h, name)), ones(0))

    def test_a_new_screen(self):
        screen = begun(5, 3, b"abc")
        self.assertEqual(screen.told(), (0, 12, 0, 15))
        self.assertEqual(colors(screen, 5, 3), [[0] * 5] * 3)
        self.assertEqual(screen.output(), HELLO)
        self.assertEqual(screen.output(), b"")
        self.assertEqual(screen.event(), [-2])
        self.assertEqual(len(changed(started(5, 3), 5, 3)), 15)

    def test_refused(self):
        for w, h in ((0, 1), (1, 0), (-1, 1), (1, -1), (641, 1), (1, 481), (LEAST, 1), (1, LEAST), (MOST, 1),
                     (1, MOST), (0, 0), (641, 481)):
            calls = begin(640, 480) + begin(w, h) + fill(639, 479, 1, 1, 3)
            self.assertEqual(answers(calls), ones(0, -1, 0), (w, h))

    def test_w_and_h_have_their_own_limits(self):
        self.assertEqual(answers(begin(480, 480) + begin(480, 640) + begin(640, 480)), ones(0, -1, 0))

    def test_refused_changes_nothing(self):
        screen = started(4, 3, name=b"old")
        screen.fill(1, 1, 2, 1, 9)
        screen.come(key_message(1, 65) + ask_message(1, 0, 0, 2, 2) + b"\4\1\0")
        before = seen(screen)
        for w, h in ((0, 3), (4, 0), (641, 3), (4, 481)):
            self.assertEqual(screen.begin(w, h), -1)
            self.assertEqual(seen(screen), before)
        self.assertEqual(screen.come(b"\0\0\0\0\x42"), 3)
        self.assertEqual([screen.event(), screen.event()], [key_event(1, 65), key_event(1, 0x42)])

    def test_begins_again(self):
        screen = started(4, 3, name=b"old")
        screen.fill(1, 1, 2, 1, 9)
        screen.come(form_message(**SMALL) + ways_message(5) + key_message(1, 65) + ask_message(0, 0, 0, 2, 2) +
                    ask_message(0, 0, 0, 1, 1) + b"\4\1\0")
        self.assertEqual(screen.begin(2, 5, b"new"), 0)
        new = begun(2, 5, b"new")
        self.assertEqual(seen(screen), seen(new))
        self.assertEqual(colors(screen, 2, 5), [[0, 0]] * 5)
        self.assertEqual(screen.come(HELLO + b"\1\1"), 3)
        new.come(HELLO + b"\1\1")
        self.assertEqual(seen_by_viewer(screen), seen_by_viewer(new))
        self.assertTrue(screen.output().endswith(b"\0\0\0\3new"))

    def test_begins_again_after_close(self):
        self.assertEqual(answers(begin(2, 2) + came(b"x" * 12) + begin(2, 2) + came(HELLO)), ones(0, 4, 0, 1))

    def test_later_calls_are_about_the_last_screen(self):
        calls = begin(2, 2) + begin(5, 5) + fill(4, 4, 1, 1, 1) + begin(2, 2) + fill(4, 4, 1, 1, 1)
        self.assertEqual(answers(calls), ones(0, 0, 0, 0, -1))


# Each is refused on a screen of 6 by 5.
OUTSIDE = ((-1, 0, 1, 1), (0, -1, 1, 1), (0, 0, 0, 1), (0, 0, 1, 0), (0, 0, -1, 1), (0, 0, 1, -1), (0, 0, 7, 1),
           (0, 0, 1, 6), (6, 0, 1, 1), (0, 5, 1, 1), (5, 0, 2, 1), (0, 4, 1, 2), (1, 0, 6, 5), (0, 1, 6, 5),
           (LEAST, 0, 1, 1), (0, LEAST, 1, 1), (MOST, 0, 1, 1), (0, MOST, 1, 1), (0, 0, MOST, 1), (0, 0, 1, MOST),
           (0, 0, LEAST, 1), (0, 0, 1, LEAST), (MOST, MOST, MOST, MOST), (-1, 0, 2, 1), (0, -1, 1, 2),
           (6, 0, 0, 1), (-1, 0, 7, 5), (0, -1, 6, 6))

INSIDE = ((0, 0, 6, 5), (0, 0, 1, 1), (5, 0, 1, 1), (0, 4, 1, 1), (5, 4, 1, 1), (0, 0, 6, 1), (0, 4, 6, 1),
          (0, 0, 1, 5), (5, 0, 1, 5), (1, 1, 4, 3), (2, 3, 2, 1))


def points_of(x, y, w, h):
    return {(x + right, y + down) for right in range(w) for down in range(h)}


def shown_before():
    """A screen with something on it, where something waits and something is asked for."""
    screen = started(6, 5)
    screen.fill(1, 1, 3, 3, 7)
    screen.come(key_message(1, 1) + ask_message(0, 0, 0, 6, 4) + ask_message(1, 0, 0, 6, 5))
    return screen


class FillTest(unittest.TestCase):
    def test_inside(self):
        for box in INSIDE:
            screen = begun(6, 5)
            self.assertEqual(screen.fill(*box, 0x123456), 0)
            inside = points_of(*box)
            expected = [[0x123456 if (x, y) in inside else 0 for x in range(6)] for y in range(5)]
            self.assertEqual(colors(screen, 6, 5), expected, box)

    def test_refused(self):
        before = shown_before()
        for box in OUTSIDE:
            screen = before.copy()
            self.assertEqual(screen.fill(*box, 9), -1, box)
            self.assertEqual(seen(screen), seen(before), box)
            self.assertEqual(colors(screen, 6, 5), colors(before, 6, 5), box)

    def test_colors_modulo(self):
        for color, stands in ((2 ** 24, 0), (2 ** 24 - 1, 0xFFFFFF), (2 ** 24 + 5, 5), (2 ** 32 - 1, 0xFFFFFF),
                              (0x7F010203, 0x010203)):
            screen = begun(2, 1)
            self.assertEqual(screen.fill(1, 0, 1, 1, color), 0)
            self.assertEqual(colors(screen, 2, 1), [[0, stands]])

    def test_points_of_another_color_have_changed(self):
        screen = started(6, 5)
        screen.fill(2, 2, 2, 1, 7)
        screen.come(ask_message(0, 0, 0, 6, 5))
        self.assertEqual(changed(screen, 6, 5), set())
        screen.fill(1, 2, 4, 1, 7)
        self.assertEqual(changed(screen, 6, 5), {(1, 2), (4, 2)})
        screen.fill(1, 2, 4, 1, 2 ** 24 + 7)
        self.assertEqual(changed(screen, 6, 5), {(1, 2), (4, 2)})
        screen.fill(2, 1, 1, 3, 0)
        self.assertEqual(changed(screen, 6, 5), {(1, 2), (4, 2), (2, 2)})

    def test_a_point_that_changes_back_has_changed(self):
        screen = started(3, 1)
        screen.come(ask_message(0, 0, 0, 3, 1))
        screen.fill(1, 0, 1, 1, 5)
        screen.fill(1, 0, 1, 1, 0)
        self.assertEqual(changed(screen, 3, 1), {(1, 0)})


class PutTest(unittest.TestCase):
    def test_inside(self):
        for box in INSIDE:
            x, y, w, h = box
            given = [1000 + place for place in range(w * h)]
            screen = begun(6, 5)
            self.assertEqual(screen.put(*box, given), 0)
            expected = [[0] * 6 for row in range(5)]
            for place, color in enumerate(given):
                expected[y + place // w][x + place % w] = color
            self.assertEqual(colors(screen, 6, 5), expected, box)

    def test_refused(self):
        before = shown_before()
        for box in OUTSIDE:
            screen = before.copy()
            self.assertEqual(screen.put(*box), -1, box)
            self.assertEqual(seen(screen), seen(before), box)
            self.assertEqual(colors(screen, 6, 5), colors(before, 6, 5), box)

    def test_colors_modulo(self):
        screen = begun(3, 1)
        self.assertEqual(screen.put(0, 0, 3, 1, [2 ** 24, 2 ** 32 - 1, 0xAB0000CD]), 0)
        self.assertEqual(colors(screen, 3, 1), [[0, 0xFFFFFF, 0xCD]])

    def test_points_of_another_color_have_changed(self):
        screen = started(3, 2)
        screen.come(ask_message(0, 0, 0, 3, 2))
        screen.put(0, 0, 3, 2, [0, 1, 2 ** 24, 0, 0, 4])
        self.assertEqual(changed(screen, 3, 2), {(1, 0), (2, 1)})
        screen.put(0, 0, 3, 2, [0, 0, 3, 0, 0, 4])
        self.assertEqual(changed(screen, 3, 2), {(1, 0), (2, 0), (2, 1)})

    def test_a_large_one(self):
        given = list(range(29000))
        screen = begun(640, 480)
        self.assertEqual(screen.put(60, 430, 580, 50, given), 0)
        self.assertEqual([color for row in colors(screen, 640, 480)[430:] for color in row[60:]], given)


if __name__ == "__main__":
    unittest.main()
