"""told (point 6): how far the line is, what waits, what is handed on, what has changed."""

import unittest

from farscreen.screen import answers
from helper import (HELLO, SMALL, VERSIONS, ask_message, begin, begun, came, fill, form_message, key_message, output,
                    parted, pointer_message, seen, sent_after, start_bytes, started, text_message, told, ways_message)


class StepTest(unittest.TestCase):
    def test_at_the_beginning(self):
        for w, h in ((1, 1), (5, 3), (640, 480), (1, 480), (640, 1)):
            self.assertEqual(parted(answers(begin(w, h) + told())), [[0], [0, 0, 12, 0, w * h]])

    def test_it_changes_nothing(self):
        calls = begin(5, 3) + told() + told() + came(HELLO) + told() + told() + output() + told()
        self.assertEqual(parted(answers(calls)), [[0], [0, 0, 12, 0, 15], [0, 0, 12, 0, 15], [1], [0, 1, 14, 0, 15],
                                                  [0, 1, 14, 0, 15], [14, *HELLO, 1, 1], [0, 1, 0, 0, 15]])

    def test_in_each_step(self):
        # How much waits behind each byte that comes, when nothing is taken.
        for version, waits in ((3, [(2, 16), (3, 42)]), (7, [(1, 14), (2, 14), (3, 40)]), (8, [(1, 14), (2, 18), (3, 44)])):
            screen = begun(3, 2, b"me")
            for octet in VERSIONS[version][:11]:
                screen.come(bytes([octet]))
                self.assertEqual(screen.told(), (0, 12, 0, 6))
            expected = list(waits)
            for octet in start_bytes(version)[11:]:
                step = screen.come(bytes([octet]))
                self.assertEqual(screen.told(), expected.pop(0) + (0, 6))
                self.assertEqual(screen.told()[0], step)
            self.assertEqual(expected, [])

    def test_in_step_four(self):
        screen = started(3, 2)
        self.assertEqual(screen.told(), (3, 0, 0, 6))
        screen.come(key_message(1, 1)[:3])
        self.assertEqual(screen.told(), (3, 0, 0, 6))

    def test_when_closed(self):
        screen = begun(3, 2)
        screen.come(b"x" * 12)
        self.assertEqual(screen.told(), (4, 12, 0, 6))
        screen = begun(3, 2)
        screen.come(VERSIONS[8] + b"\0")
        self.assertEqual(screen.told(), (4, 29, 0, 6))
        screen = begun(3, 2)
        screen.come(VERSIONS[7] + b"\0")
        self.assertEqual(screen.told(), (4, 14, 0, 6))
        screen = started(3, 2)
        screen.come(key_message(1, 1) + ask_message(0, 0, 0, 2, 2) + ask_message(0, 0, 0, 1, 1) + b"\xff")
        self.assertEqual(screen.told(), (4, 32, 1, 2))
        screen.fill(0, 0, 2, 2, 1)
        self.assertEqual(screen.told(), (4, 32, 1, 6))
        screen.output()
        screen.event()
        self.assertEqual(screen.told(), (4, 0, 0, 6))


class WaitingTest(unittest.TestCase):
    def test_before_and_behind_an_output(self):
        calls = begin(3, 2) + told() + output(0) + told() + output(1) + told() + output(10) + told() + output(1) + told()
        calls += output() + told()
        self.assertEqual([part[2] for part in parted(answers(calls))[1::2]], [12, 12, 11, 1, 0, 0])

    def test_a_rectangle(self):
        screen = started(3, 2)
        screen.come(ask_message(0, 0, 0, 3, 2))
        self.assertEqual(screen.told()[1], 16 + 24)
        screen.output(39)
        self.assertEqual(screen.told()[1], 1)
        screen.output(1)
        self.assertEqual(screen.told()[1], 0)

    def test_in_each_way_and_form(self):
        for form, size in ((SMALL, 1), ({}, 4)):
            for way, waits in ((0, 6 * size), (2, 4 + size), (5, 1 + size)):
                screen = started(3, 2)
                screen.come(form_message(**form) + ways_message(way) + ask_message(0, 0, 0, 3, 2))
                self.assertEqual(screen.told(), (3, 16 + waits, 0, 0))

    def test_what_is_told_by_the_output_itself(self):
        screen = begun(3, 2)
        screen.come(start_bytes() + ask_message(0, 0, 0, 1, 1))
        self.assertEqual(screen.told(), (3, 42, 0, 6))
        screen.output(41)
        self.assertEqual(screen.told(), (3, 1, 0, 6))
        screen.output(1)
        self.assertEqual(screen.told(), (3, 20, 0, 5))


class HandedOnTest(unittest.TestCase):
    def test_how_many(self):
        screen = started(3, 2)
        for count, message in enumerate((key_message(1, 1), pointer_message(1, 2, 3), text_message(b""),
                                         text_message(b"abc"), key_message(0, 1)), start=1):
            screen.come(message)
            self.assertEqual(screen.told(), (3, 0, count, 6))
        screen.event(-1)
        self.assertEqual(screen.told(), (3, 0, 5, 6))
        for count in (4, 3, 2):
            screen.event()
            self.assertEqual(screen.told(), (3, 0, count, 6))
        self.assertEqual(screen.event(2), [-6])
        self.assertEqual(screen.told(), (3, 0, 2, 6))

    def test_sixty_four_at_most(self):
        for count in (63, 64, 65, 200):
            screen = started(3, 2)
            screen.come(pointer_message(0, 0, 0) * count)
            self.assertEqual(screen.told(), (3, 0, min(count, 64), 6))

    def test_other_messages_hand_on_nothing(self):
        screen = started(3, 2)
        screen.come(form_message() + ways_message(5) + ask_message(1, 0, 0, 1, 1))
        self.assertEqual(screen.told()[2], 0)


class ChangedTest(unittest.TestCase):
    def count(self, screen):
        return screen.told()[3]

    def test_after_each_way_of_telling(self):
        for way in (0, 2, 5):
            for only_changed in (0, 1):
                screen = started(20, 18)
                screen.come(ways_message(way) + ask_message(only_changed, 2, 3, 18, 15))
                self.assertEqual(self.count(screen), 360 - 270)
                screen.output()
                self.assertEqual(self.count(screen), 90)
                sent_after(screen, ask_message(only_changed, 0, 0, 20, 18))
                self.assertEqual(self.count(screen), 0)

    def test_asked_for_but_not_told_yet(self):
        screen = begun(4, 4)
        screen.come(start_bytes() + ask_message(0, 0, 0, 4, 4))
        self.assertEqual(self.count(screen), 16)
        screen.output()
        self.assertEqual(self.count(screen), 0)

    def test_the_least_rectangle_takes_all_points_in_it(self):
        screen = started(5, 5)
        sent_after(screen, ask_message(0, 0, 0, 5, 5))
        for x, y in ((1, 1), (3, 3), (4, 4)):
            screen.fill(x, y, 1, 1, 1)
        self.assertEqual(self.count(screen), 3)
        sent_after(screen, ask_message(1, 0, 0, 4, 4))
        self.assertEqual(self.count(screen), 1)

    def test_after_fill(self):
        screen = started(5, 4)
        screen.fill(0, 0, 5, 4, 1)
        self.assertEqual(self.count(screen), 20)
        sent_after(screen, ask_message(0, 0, 0, 5, 4))
        for box, color, count in (((0, 0, 5, 4), 1, 0), ((1, 1, 2, 2), 1, 0), ((1, 1, 2, 2), 2 ** 24 + 1, 0),
                                  ((1, 1, 2, 2), 2, 4), ((1, 1, 2, 2), 2, 4), ((2, 1, 2, 2), 2, 6),
                                  ((1, 1, 1, 1), 1, 6), ((0, 0, 5, 4), 2, 20)):
            self.assertEqual(screen.fill(*box, color), 0)
            self.assertEqual(self.count(screen), count, (box, color))

    def test_after_put(self):
        screen = started(3, 2)
        sent_after(screen, ask_message(0, 0, 0, 3, 2))
        for colors, count in (([0] * 6, 0), ([0, 2 ** 24, 0, 0, 0, 0], 0), ([0, 1, 0, 0, 0, 0], 1),
                              ([0, 0, 0, 0, 0, 0], 1), ([2, 0, 0, 0, 0, 2], 3), ([3] * 6, 6)):
            self.assertEqual(screen.put(0, 0, 3, 2, colors), 0)
            self.assertEqual(self.count(screen), count, colors)

    def test_inside_and_outside_of_what_was_told(self):
        screen = started(6, 4)
        sent_after(screen, ask_message(0, 1, 1, 3, 2))
        self.assertEqual(self.count(screen), 18)
        screen.fill(0, 0, 6, 1, 5)
        screen.put(4, 1, 2, 1, [6, 7])
        self.assertEqual(self.count(screen), 18)
        screen.fill(3, 2, 2, 2, 5)
        self.assertEqual(self.count(screen), 19)
        screen.put(1, 1, 1, 2, [0, 9])
        self.assertEqual(self.count(screen), 20)

    def test_refused_calls_change_none(self):
        screen = started(3, 2)
        sent_after(screen, ask_message(0, 0, 0, 3, 2))
        self.assertEqual(screen.fill(0, 0, 4, 2, 5), -1)
        self.assertEqual(screen.put(0, 1, 3, 2), -1)
        self.assertEqual(self.count(screen), 0)

    def test_changes_told_at_once(self):
        screen = started(3, 2)
        sent_after(screen, ask_message(0, 0, 0, 3, 2), ask_message(1, 0, 0, 2, 2))
        screen.fill(0, 0, 3, 1, 5)
        self.assertEqual(screen.told(), (3, 24, 0, 1))

    def test_all_of_the_largest_screen(self):
        calls = begin(640, 480) + came(start_bytes() + ways_message(2)) + output() + came(ask_message(0, 0, 0, 640, 480))
        calls += told() + fill(0, 0, 640, 480, 1) + told() + fill(0, 0, 640, 480, 2) + told()
        self.assertEqual([part[4] for part in parted(answers(calls))[4::2]], [0, 307200, 307200])


class BeginAgainTest(unittest.TestCase):
    def before(self):
        busy = started(4, 3)
        busy.come(key_message(1, 1) + ask_message(0, 0, 0, 2, 2) + ask_message(0, 1, 1, 2, 2))
        closed = busy.copy()
        closed.come(b"\1")
        quiet = started(4, 3)
        sent_after(quiet, ask_message(0, 0, 0, 4, 3), ask_message(1, 0, 0, 4, 3))
        return (busy, closed, quiet, begun(4, 3), started(4, 3))

    def test_refused(self):
        for before in self.before():
            screen = before.copy()
            for w, h in ((0, 3), (4, 0), (641, 3), (4, 481)):
                self.assertEqual(screen.begin(w, h), -1)
                self.assertEqual(screen.told(), before.told())
            self.assertEqual(seen(screen), seen(before))

    def test_not_refused(self):
        for screen in self.before():
            self.assertEqual(screen.begin(7, 2, b"again"), 0)
            self.assertEqual(screen.told(), (0, 12, 0, 14))
            self.assertEqual(seen(screen), seen(begun(7, 2, b"again")))


if __name__ == "__main__":
    unittest.main()
