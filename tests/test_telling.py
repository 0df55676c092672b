"""What's told, and when."""

import unittest

from helper import (HELLO, SMALL, ask_message, begun, changed, form_message, key_message, pointer_message, sent_after,
                    started, u16, u32, ways_message)


def head(x, y, w, h, way=0):
    return b"\0\0\0\1" + u16(x) + u16(y) + u16(w) + u16(h) + u32(way)


def point(color):
    """A point in the first form: the lowest byte comes first."""
    return color.to_bytes(4, "little")


class AskedTest(unittest.TestCase):
    def test_all_of_it(self):
        screen = started(4, 3)
        screen.put(1, 1, 2, 2, [0x010203, 0x040506, 0x070809, 0x0A0B0C])
        expected = head(1, 0, 2, 3) + point(0) * 2 + b"\3\2\1\0\6\5\4\0" + b"\x09\x08\x07\0\x0C\x0B\x0A\0"
        self.assertEqual(sent_after(screen, ask_message(0, 1, 0, 2, 3)), expected)
        self.assertEqual(sent_after(screen, ask_message(0, 1, 0, 2, 3)), expected)

    def test_nothing_without_being_asked(self):
        screen = started(4, 3)
        screen.fill(0, 0, 4, 3, 5)
        self.assertEqual(sent_after(screen, key_message(1, 1)), b"")

    def test_asked_once_told_once(self):
        screen = started(2, 1)
        screen.come(ask_message(0, 0, 0, 2, 1))
        self.assertEqual(screen.output(), head(0, 0, 2, 1) + point(0) * 2)
        screen.fill(0, 0, 2, 1, 9)
        self.assertEqual(screen.output(), b"")

    def test_not_while_something_waits(self):
        screen = begun(2, 1)
        screen.come(HELLO + b"\1\1" + ask_message(0, 0, 0, 2, 1))
        screen.fill(0, 0, 1, 1, 1)
        screen.come(key_message(1, 1))
        self.assertEqual(len(screen.output()), 12 + 2 + 4 + 24)
        self.assertEqual(screen.output(), head(0, 0, 2, 1) + point(1) + point(0))
        self.assertEqual(screen.output(), b"")

    def test_one_byte_that_waits_is_enough(self):
        screen = begun(2, 1)
        screen.come(HELLO + b"\1\1")
        self.assertEqual(len(screen.output(41)), 41)
        screen.come(ask_message(0, 0, 0, 2, 1))
        screen.fill(0, 0, 1, 1, 1)
        screen.put(1, 0, 1, 1, [2])
        self.assertEqual(screen.told(), (3, 1, 0, 2))
        self.assertEqual(screen.output(0), b"")
        self.assertEqual(screen.told(), (3, 1, 0, 2))
        self.assertEqual(screen.output(), b"\0")
        self.assertEqual(screen.told(), (3, 24, 0, 0))
        self.assertEqual(screen.output(), head(0, 0, 2, 1) + point(1) + point(2))

    def test_the_later_one_is_asked_for(self):
        screen = started(4, 1)
        screen.come(ask_message(0, 0, 0, 1, 1) + ask_message(0, 0, 0, 4, 1) + ask_message(0, 2, 0, 1, 1))
        self.assertEqual(screen.output(), head(0, 0, 1, 1) + point(0))
        self.assertEqual(screen.output(), head(2, 0, 1, 1) + point(0))
        self.assertEqual(screen.output(), b"")

    def test_the_later_one_settles_which_points(self):
        screen = started(4, 1)
        screen.come(ask_message(0, 0, 0, 4, 1) + ask_message(0, 0, 0, 4, 1) + ask_message(1, 0, 0, 4, 1))
        screen.output()
        self.assertEqual(screen.output(), b"")
        screen.fill(3, 0, 1, 1, 1)
        self.assertEqual(screen.output(), head(3, 0, 1, 1) + point(1))

    def test_colors_and_form_are_those_when_it_is_told(self):
        screen = started(2, 1)
        screen.come(ask_message(0, 0, 0, 2, 1) + ask_message(0, 0, 0, 2, 1))
        screen.fill(0, 0, 2, 1, 0xFFFFFF)
        screen.come(form_message(**SMALL) + ways_message(5))
        self.assertEqual(screen.output(), head(0, 0, 2, 1) + point(0) * 2)
        self.assertEqual(screen.output(), head(0, 0, 2, 1, 5) + b"\2\xff")

    def test_whole_screen(self):
        screen = started(640, 480)
        sent = sent_after(screen, ask_message(0, 0, 0, 640, 480))
        self.assertEqual(sent, head(0, 0, 640, 480) + bytes(640 * 480 * 4))


class ChangedTest(unittest.TestCase):
    def test_at_first_all_have(self):
        screen = started(4, 3)
        self.assertEqual(sent_after(screen, ask_message(1, 0, 0, 4, 3)), head(0, 0, 4, 3) + point(0) * 12)
        self.assertEqual(changed(screen, 4, 3), set())

    def test_at_first_all_have_in_a_part(self):
        screen = started(4, 3)
        self.assertEqual(sent_after(screen, ask_message(1, 1, 1, 2, 2)), head(1, 1, 2, 2) + point(0) * 4)
        self.assertEqual(len(changed(screen, 4, 3)), 8)

    def test_not_told_before_something_changes(self):
        screen = started(4, 3)
        sent_after(screen, ask_message(0, 0, 0, 4, 3))
        self.assertEqual(sent_after(screen, ask_message(1, 0, 0, 4, 3)), b"")
        self.assertEqual(sent_after(screen, pointer_message(0, 0, 0)), b"")
        screen.fill(0, 0, 4, 3, 0)
        screen.put(0, 0, 2, 1, [0, 2 ** 24])
        self.assertEqual(screen.output(), b"")
        screen.fill(2, 1, 1, 1, 6)
        self.assertEqual(screen.output(), head(2, 1, 1, 1) + point(6))
        screen.fill(2, 1, 1, 1, 7)
        self.assertEqual(screen.output(), b"")

    def test_told_after_put(self):
        screen = started(4, 3)
        sent_after(screen, ask_message(0, 0, 0, 4, 3), ask_message(1, 0, 0, 4, 3))
        screen.put(1, 0, 3, 1, [0, 8, 9])
        self.assertEqual(screen.output(), head(2, 0, 2, 1) + point(8) + point(9))

    def test_changes_outside_do_not_count(self):
        screen = started(5, 5)
        sent_after(screen, ask_message(0, 0, 0, 5, 5))
        self.assertEqual(sent_after(screen, ask_message(1, 1, 1, 3, 3)), b"")
        for x, y, w, h in ((0, 0, 5, 1), (0, 4, 5, 1), (0, 0, 1, 5), (4, 0, 1, 5)):
            screen.fill(x, y, w, h, 3)
            self.assertEqual(screen.output(), b"")
        screen.fill(3, 3, 2, 2, 4)
        self.assertEqual(screen.output(), head(3, 3, 1, 1) + point(4))
        self.assertEqual(len(changed(screen, 5, 5)), 16)

    def test_the_least_rectangle(self):
        for points in (((1, 3), (4, 1)), ((4, 3), (1, 1)), ((2, 1), (1, 2), (4, 2), (2, 3)), ((1, 2), (4, 1), (2, 3))):
            screen = started(6, 5)
            sent_after(screen, ask_message(0, 0, 0, 6, 5))
            for x, y in points:
                screen.fill(x, y, 1, 1, 1)
            rows = [point(1) if (x, y) in points else point(0) for y in (1, 2, 3) for x in (1, 2, 3, 4)]
            self.assertEqual(sent_after(screen, ask_message(1, 0, 0, 6, 5)), head(1, 1, 4, 3) + b"".join(rows))
            self.assertEqual(changed(screen, 6, 5), set())

    def test_the_edges_of_what_is_asked_for(self):
        for x, y in ((1, 1), (3, 1), (1, 3), (3, 3)):
            screen = started(5, 5)
            sent_after(screen, ask_message(0, 0, 0, 5, 5))
            screen.fill(x, y, 1, 1, 2)
            self.assertEqual(sent_after(screen, ask_message(1, 1, 1, 3, 3)), head(x, y, 1, 1) + point(2))

    def test_what_is_told_has_not_changed(self):
        screen = started(4, 4)
        sent_after(screen, ask_message(0, 1, 1, 2, 2))
        self.assertEqual(changed(screen, 4, 4), {(x, y) for x in range(4) for y in range(4)} -
                         {(1, 1), (2, 1), (1, 2), (2, 2)})
        self.assertEqual(sent_after(screen, ask_message(1, 1, 1, 2, 2)), b"")

    def test_changes_while_it_waits(self):
        screen = started(3, 1)
        screen.come(ask_message(0, 0, 0, 3, 1))
        screen.fill(1, 0, 1, 1, 1)
        screen.come(ask_message(1, 0, 0, 3, 1))
        self.assertEqual(screen.output(), head(0, 0, 3, 1) + point(0) * 3)
        self.assertEqual(screen.output(), head(1, 0, 1, 1) + point(1))

    def test_changed_back_is_told(self):
        screen = started(3, 1)
        sent_after(screen, ask_message(0, 0, 0, 3, 1))
        screen.fill(0, 0, 1, 1, 1)
        screen.fill(0, 0, 1, 1, 0)
        self.assertEqual(sent_after(screen, ask_message(1, 0, 0, 3, 1)), head(0, 0, 1, 1) + point(0))

    def test_not_when_closed(self):
        screen = started(3, 1)
        sent_after(screen, ask_message(0, 0, 0, 3, 1), ask_message(1, 0, 0, 3, 1))
        self.assertEqual(screen.come(b"\1"), 4)
        screen.fill(0, 0, 3, 1, 5)
        self.assertEqual(screen.output(), b"")
        self.assertEqual(screen.told(), (4, 0, 0, 3))


if __name__ == "__main__":
    unittest.main()
