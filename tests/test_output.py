"""output (point 4): what waits to be sent is given out, and then what's asked for is seen to."""

import unittest

from farscreen.screen import answers
from helper import (FIRST_FORM, HELLO, LEAST_NUMBER, MOST_NUMBER, MOST_OUTPUT, SMALL, VERSIONS, Screen, ask_message,
                    begin, begun, came, fill, form_message, key_message, output, parted, pointer_message, put, seen,
                    sent, sent_after, start_bytes, started, text_message, told, u16, u32, ways_message)

BETWEEN = {3: b"\0\0\0\1", 7: b"\1\1", 8: b"\1\1\0\0\0\0"}
FORMS = (SMALL, {"order": 0}, {"order": 1},
         {"bits": 16, "depth": 16, "order": 0, "greatest": (31, 63, 31), "shifts": (11, 5, 0)},
         {"bits": 16, "depth": 16, "order": 1, "greatest": (31, 63, 31), "shifts": (11, 5, 0)})


def first_steps(version, w, h, name):
    """All bytes that are sent in the first three steps."""
    return HELLO + BETWEEN[version] + u16(w) + u16(h) + FIRST_FORM + u32(len(name)) + name


def head(x, y, w, h, way=0):
    return b"\0\0\0\1" + u16(x) + u16(y) + u16(w) + u16(h) + u32(way)


def point(color):
    return color.to_bytes(4, "little")


def in_pieces(data, size):
    """What outputs of this size answer: the pieces, and at last none."""
    return [sent(data[place:place + size]) for place in range(0, len(data) + size, size)]


class MostTest(unittest.TestCase):
    def test_as_many_as_there_are_and_most_at_the_most(self):
        for most, given in ((0, b""), (1, b"R"), (2, b"RF"), (11, HELLO[:11]), (12, HELLO), (13, HELLO),
                            (4096, HELLO), (MOST_OUTPUT - 1, HELLO), (MOST_OUTPUT, HELLO)):
            calls = begin(2, 2) + output(most) + told() + output()
            rest = HELLO[len(given):]
            self.assertEqual(parted(answers(calls)), [[0], sent(given), [0, 0, len(rest), 0, 4], sent(rest)], most)

    def test_they_are_gone(self):
        calls = begin(2, 2) + output(5) + output(5) + output(5) + output(5)
        self.assertEqual(parted(answers(calls)), [[0], sent(HELLO[:5]), sent(HELLO[5:10]), sent(HELLO[10:]), [0]])

    def test_none_while_nothing_waits(self):
        for most in (0, 1, MOST_OUTPUT):
            calls = begin(2, 2) + output() + output(most) + told() + came(HELLO) + output(most) + output()
            given = b"\1\1"[:most]
            self.assertEqual(parted(answers(calls)), [[0], sent(HELLO), [0], [0, 0, 0, 0, 4], [1], sent(given),
                                                      sent(b"\1\1"[len(given):])])

    def test_refused(self):
        for most in (-1, MOST_OUTPUT + 1, -MOST_OUTPUT, LEAST_NUMBER, MOST_NUMBER):
            self.assertEqual(parted(answers(begin(2, 2) + output(most))), [[0], [-1]])
            self.assertEqual(parted(answers(begin(2, 2) + output() + output(most))), [[0], sent(HELLO), [-1]])

    def test_refused_and_nothing_has_happened(self):
        waits = started(2, 2)
        waits.come(key_message(1, 1) + ask_message(0, 0, 0, 2, 2) + ask_message(1, 0, 0, 1, 1))
        waits.fill(0, 0, 1, 1, 5)
        idle = started(2, 2)
        sent_after(idle, ask_message(0, 0, 0, 2, 2), ask_message(1, 0, 0, 2, 2))
        for before in (begun(2, 2), waits, idle):
            for most in (-1, MOST_OUTPUT + 1, LEAST_NUMBER, MOST_NUMBER):
                screen = before.copy()
                self.assertEqual(screen.call(output(most)), [-1])
                self.assertEqual(seen(screen), seen(before))

    def test_more_waits_than_can_be_given_out_at_once(self):
        # 214 columns are the ground; in each row the 426 others are runs of 12 bytes.
        calls = begin(640, 480) + came(start_bytes() + ways_message(2)) + output() + fill(426, 0, 214, 480, 9)
        for x in range(1, 426, 2):
            calls += fill(x, 0, 1, 480, 5)
        calls += came(ask_message(0, 0, 0, 640, 480)) + told() + output(MOST_OUTPUT) + told() + output() + told()
        given = parted(answers(calls))[-5:]
        rows = [b"".join(point(5 * (x % 2)) + u16(x) + u16(y) + u16(1) + u16(1) for x in range(426)) for y in range(480)]
        data = head(0, 0, 640, 480, 2) + u32(426 * 480) + point(9) + b"".join(rows)
        self.assertGreater(len(data), MOST_OUTPUT)
        rest = data[MOST_OUTPUT:]
        self.assertTrue(given == [[0, 3, len(data), 0, 0], sent(data[:MOST_OUTPUT]), [0, 3, len(rest), 0, 0], sent(rest),
                                  [0, 3, 0, 0, 0]])

    def test_a_whole_screen_in_the_widest_points(self):
        screen = started(640, 480)
        screen.fill(0, 0, 640, 480, 0x010203)
        expected = head(0, 0, 640, 480) + point(0x010203) * 307200
        self.assertEqual(sent_after(screen, ask_message(0, 0, 0, 640, 480)), expected)
        self.assertEqual(screen.output(), b"")


class StepsTest(unittest.TestCase):
    def test_pieces_of_every_size(self):
        for version in VERSIONS:
            data = first_steps(version, 300, 2, b"name")
            start = begin(300, 2, b"name") + came(start_bytes(version))
            for size in range(1, len(data) + 2):
                pieces = in_pieces(data, size)
                calls = start + output(size) * len(pieces)
                self.assertEqual(parted(answers(calls))[2:], pieces, (version, size))

    def test_pieces_of_every_size_with_a_rectangle_behind(self):
        update = head(1, 0, 2, 1) + point(0) + point(0x123456)
        for version in VERSIONS:
            data = first_steps(version, 3, 2, b"me")
            start = begin(3, 2, b"me") + fill(2, 0, 1, 2, 0x123456)
            start += came(start_bytes(version) + ask_message(0, 1, 0, 2, 1))
            for size in range(1, len(data) + 2):
                # No piece holds bytes of both: the rectangle is told when nothing waits any more.
                pieces = in_pieces(data, size)[:-1] + in_pieces(update, size)
                calls = start + output(size) * len(pieces)
                self.assertEqual(parted(answers(calls))[3:], pieces, (version, size))

    def test_after_each_byte_that_comes(self):
        for version in VERSIONS:
            calls = begin(3, 2, b"me") + output()
            for octet in start_bytes(version):
                calls += came(bytes([octet])) + output()
            given = parted(answers(calls))[1::2]
            self.assertEqual(b"".join(bytes(part[1:]) for part in given), first_steps(version, 3, 2, b"me"))
            last = u16(3) + u16(2) + FIRST_FORM + u32(2) + b"me"
            middle = {3: [b"\0\0\0\1"], 7: [b"\1\1", b""], 8: [b"\1\1", b"\0\0\0\0"]}[version]
            expected = [HELLO] + [b""] * 11 + middle + [last]
            self.assertEqual(given, [sent(data) for data in expected], version)

    def test_each_name(self):
        for name in (b"", b"a", bytes(range(64)), b"\xff" * 64):
            calls = begin(1, 1, name) + came(start_bytes()) + output()
            self.assertEqual(parted(answers(calls))[-1], sent(first_steps(8, 1, 1, name)))

    def test_pieces_while_more_comes(self):
        calls = begin(3, 2) + output(7) + came(VERSIONS[7]) + output(6) + came(b"\1") + output(0) + came(b"\0") + output()
        data = first_steps(7, 3, 2, b"")
        self.assertEqual(parted(answers(calls)), [[0], sent(data[:7]), [1], sent(data[7:13]), [2], [0], [3],
                                                  sent(data[13:])])


class CloseTest(unittest.TestCase):
    def given_out(self, screen, data):
        """What waits, these bytes, is given out in any pieces, and then nothing more."""
        for size in (1, 5, len(data), MOST_OUTPUT):
            closed = screen.copy()
            pieces = in_pieces(data, min(size, len(data) + 1))
            given = closed.answered_behind(output(size) * len(pieces) + fill(0, 0, 1, 1, 9) + output(size) +
                                           put(0, 0, 1, 1, [8]) + output(size) + came(ask_message(0, 0, 0, 1, 1)) +
                                           output(size))
            expected = pieces + [[0], [0], [0], [0], [4], [0]]
            self.assertEqual(given, expected, (data, size))

    def test_wrong_hello(self):
        screen = begun(2, 2)
        self.assertEqual(screen.come(b"RFB 003.005\n"), 4)
        self.given_out(screen, HELLO)

    def test_wrong_choice(self):
        for version, reason in ((7, b""), (8, b"\0\0\0\1\0\0\0\7unknown")):
            screen = begun(2, 2)
            self.assertEqual(screen.come(VERSIONS[version] + b"\2"), 4)
            self.given_out(screen, HELLO + b"\1\1" + reason)

    def test_wrong_message(self):
        screen = begun(2, 2)
        self.assertEqual(screen.come(start_bytes() + ask_message(0, 0, 0, 2, 2) + b"\x63"), 4)
        self.given_out(screen, first_steps(8, 2, 2, b""))

    def test_while_a_rectangle_waits_and_another_is_asked_for(self):
        screen = started(2, 2)
        self.assertEqual(screen.come(ask_message(0, 0, 0, 2, 1) + ask_message(0, 0, 0, 1, 1) + ask_message(2, 0, 0, 1, 1)), 4)
        self.given_out(screen, head(0, 0, 2, 1) + point(0) * 2)

    def test_while_a_rectangle_is_partly_given_out(self):
        screen = started(2, 2)
        screen.come(ask_message(0, 0, 0, 2, 1))
        self.assertEqual(screen.output(17), head(0, 0, 2, 1) + b"\0")
        screen.come(ask_message(0, 0, 0, 1, 1))
        self.assertEqual(screen.come(b"\6\0\0\0\0\0\x10\1"), 4)
        self.given_out(screen, b"\0" * 7)


class AskedTest(unittest.TestCase):
    def test_told_only_when_nothing_waits_and_given_out_by_the_next(self):
        data = first_steps(8, 2, 1, b"")
        update = head(0, 0, 2, 1) + point(0) * 2
        start = begin(2, 1) + came(start_bytes() + ask_message(0, 0, 0, 2, 1))
        for most in (len(data), len(data) + 1, len(data) + len(update), MOST_OUTPUT):
            calls = start + told() + output(most) + told() + output() + told() + output()
            self.assertEqual(parted(answers(calls))[2:], [
                [0, 3, len(data), 0, 2], sent(data), [0, 3, len(update), 0, 0], sent(update), [0, 3, 0, 0, 0], [0]])

    def test_not_while_one_byte_waits(self):
        data = first_steps(8, 2, 1, b"")
        update = head(0, 0, 2, 1) + point(0) * 2
        calls = begin(2, 1) + came(start_bytes() + ask_message(0, 0, 0, 2, 1)) + output(len(data) - 1)
        calls += told() + output(0) + told() + output(1) + told() + output(1) + output()
        self.assertEqual(parted(answers(calls))[2:], [
            sent(data[:-1]), [0, 3, 1, 0, 2], [0], [0, 3, 1, 0, 2], sent(data[-1:]),
            [0, 3, len(update), 0, 0], sent(update[:1]), sent(update[1:])])

    def test_colors_are_those_when_it_is_told(self):
        screen = Screen(begin(2, 1) + came(start_bytes() + ask_message(0, 0, 0, 2, 1)))
        screen.fill(0, 0, 1, 1, 3)
        screen.output()
        # It's told now: what comes later isn't in it.
        screen.fill(0, 0, 2, 1, 4)
        self.assertEqual(screen.output(), head(0, 0, 2, 1) + point(3) + point(0))
        self.assertEqual(sent_after(screen, ask_message(1, 0, 0, 2, 1)), head(0, 0, 2, 1) + point(4) * 2)

    def test_form_and_way_are_those_when_it_is_told(self):
        screen = started(2, 1)
        screen.come(ask_message(0, 0, 0, 1, 1) + ask_message(0, 0, 0, 2, 1))
        screen.come(form_message(**SMALL) + ways_message(2))
        screen.output()
        screen.come(form_message() + ways_message(5))
        self.assertEqual(screen.output(), head(0, 0, 2, 1, 2) + b"\0\0\0\0\0")

    def test_one_rectangle_for_each_output(self):
        screen = started(3, 1)
        screen.come(ask_message(0, 0, 0, 1, 1) + ask_message(0, 1, 0, 1, 1))
        self.assertEqual(screen.output(), head(0, 0, 1, 1) + point(0))
        screen.come(ask_message(0, 2, 0, 1, 1))
        self.assertEqual(screen.output(), head(1, 0, 1, 1) + point(0))
        self.assertEqual(screen.output(), head(2, 0, 1, 1) + point(0))
        self.assertEqual(screen.output(), b"")

    def test_seen_to_after_each_message(self):
        for message in (key_message(1, 1), pointer_message(1, 2, 3), text_message(b"t"), ways_message(), form_message()):
            screen = started(2, 1)
            self.assertEqual(screen.come(ask_message(0, 0, 0, 2, 1) + message), 3)
            self.assertEqual(screen.output(), head(0, 0, 2, 1) + point(0) * 2)


class ChangedTest(unittest.TestCase):
    def waiting_for_change(self):
        """All has been told, and what will change in 3 by 2 points is asked for."""
        screen = started(5, 4)
        sent_after(screen, ask_message(0, 0, 0, 5, 4))
        self.assertEqual(sent_after(screen, ask_message(1, 1, 1, 3, 2)), b"")
        return screen

    def test_told_after_fill(self):
        screen = self.waiting_for_change()
        for times in range(3):
            self.assertEqual(screen.output(times), b"")
        screen.fill(0, 0, 2, 2, 7)
        self.assertEqual(screen.told(), (3, 20, 0, 3))
        self.assertEqual(screen.output(), head(1, 1, 1, 1) + point(7))
        self.assertEqual(screen.output(), b"")

    def test_told_after_put(self):
        screen = self.waiting_for_change()
        screen.put(1, 1, 3, 2, [0, 6, 0, 0, 0, 5])
        self.assertEqual(screen.told(), (3, 32, 0, 0))
        self.assertEqual(screen.output(), head(2, 1, 2, 2) + point(6) + point(0) * 2 + point(5))

    def test_not_by_the_same_color_and_not_outside(self):
        screen = self.waiting_for_change()
        screen.fill(0, 0, 5, 4, 2 ** 24)
        screen.put(1, 1, 3, 2, [0] * 6)
        screen.fill(0, 0, 5, 1, 9)
        screen.put(4, 0, 1, 4, [9, 9, 9, 9])
        self.assertEqual(screen.told(), (3, 0, 0, 8))
        self.assertEqual(screen.output(), b"")
        screen.fill(3, 2, 1, 1, 1)
        self.assertEqual(screen.output(), head(3, 2, 1, 1) + point(1))
        self.assertEqual(screen.told(), (3, 0, 0, 8))

    def test_only_what_has_changed_since(self):
        screen = self.waiting_for_change()
        screen.fill(1, 1, 1, 1, 1)
        screen.fill(3, 2, 1, 1, 2)
        self.assertEqual(screen.output(), head(1, 1, 1, 1) + point(1))
        self.assertEqual(screen.output(), b"")
        self.assertEqual(sent_after(screen, ask_message(1, 1, 1, 3, 2)), head(3, 2, 1, 1) + point(2))
        self.assertEqual(sent_after(screen, ask_message(1, 1, 1, 3, 2)), b"")

    def test_changes_while_something_waits_are_told_together(self):
        screen = self.waiting_for_change()
        screen.fill(1, 1, 1, 1, 1)
        screen.come(ask_message(1, 0, 0, 5, 4))
        screen.fill(0, 0, 1, 1, 2)
        screen.fill(2, 0, 1, 1, 3)
        self.assertEqual(screen.output(), head(1, 1, 1, 1) + point(1))
        self.assertEqual(screen.output(), head(0, 0, 3, 1) + point(2) + point(0) + point(3))

    def test_a_large_rectangle_is_told_by_its_changed_points(self):
        screen = started(640, 480)
        screen.come(ask_message(0, 0, 0, 640, 480))
        self.assertEqual(len(screen.output()), 16 + 4 * 307200)
        screen.calls += came(ways_message(2) + ask_message(1, 0, 0, 640, 480))
        screen.calls += fill(639, 479, 1, 1, 1)
        self.assertEqual(screen.output(), head(639, 479, 1, 1, 2) + u32(0) + point(1))


class FormsAndWaysTest(unittest.TestCase):
    def test_pieces_of_every_size(self):
        for form in FORMS:
            for way in (0, 2, 5):
                start = begin(18, 2) + came(start_bytes() + form_message(**form) + ways_message(way)) + output()
                start += put(2, 0, 3, 2, [0xFF0000, 0xFF0000, 0x00FF00, 0, 0x0000FF, 0])
                start += came(ask_message(0, 0, 0, 18, 2))
                data = bytes(parted(answers(start + output()))[-1][1:])
                self.assertEqual(data[:16], head(0, 0, 18, 2, way))
                for size in range(1, len(data) + 2):
                    if len(data) // size < 280:
                        pieces = in_pieces(data, size)
                        self.assertEqual(parted(answers(start + output(size) * len(pieces)))[-len(pieces):], pieces)

    def test_the_bytes(self):
        points = {0: "00 e0 1c 00", 2: "00000002 00 e0 0001 0000 0001 0001 1c 0002 0000 0001 0001", 5: "01 00 e0 1c 00"}
        wide = {0: "00000000 00ff0000 0000ff00 00000000",
                2: "00000002 00000000 00ff0000 0001 0000 0001 0001 0000ff00 0002 0000 0001 0001",
                5: "01 00000000 00ff0000 0000ff00 00000000"}
        for form, expected in ((SMALL, points), ({"order": 1}, wide)):
            for way in (0, 2, 5):
                screen = started(4, 1)
                screen.put(1, 0, 2, 1, [0xFF0000, 0x00FF00])
                data = sent_after(screen, form_message(**form), ways_message(way), ask_message(0, 0, 0, 4, 1))
                self.assertEqual(data, head(0, 0, 4, 1, way) + bytes.fromhex(expected[way]), (form, way))


class BeginAgainTest(unittest.TestCase):
    def before(self):
        """Screens on which something waits, is asked for, or neither."""
        partly = started(2, 2)
        partly.come(ask_message(0, 0, 0, 2, 2) + ask_message(0, 0, 0, 1, 1))
        partly.output(18)
        idle = started(2, 2)
        sent_after(idle, ask_message(0, 0, 0, 2, 2), ask_message(1, 0, 0, 2, 2))
        closed = begun(2, 2)
        closed.come(VERSIONS[8] + b"\2")
        emptied = closed.copy()
        emptied.output()
        cut = begun(2, 2)
        cut.output(4)
        return (partly, idle, closed, emptied, cut)

    def test_refused(self):
        for before in self.before():
            screen = before.copy()
            self.assertEqual(screen.begin(2, 0), -1)
            self.assertEqual(screen.begin(641, 2), -1)
            self.assertEqual(seen(screen), seen(before))

    def test_not_refused(self):
        for screen in self.before():
            self.assertEqual(screen.begin(3, 1, b"new"), 0)
            self.assertEqual(seen(screen), seen(begun(3, 1, b"new")))
            self.assertEqual(screen.come(start_bytes()), 3)
            self.assertEqual(screen.output(), first_steps(8, 3, 1, b"new"))
            self.assertEqual(screen.output(), b"")
            self.assertEqual(sent_after(screen, ask_message(1, 0, 0, 3, 1)), head(0, 0, 3, 1) + point(0) * 3)


if __name__ == "__main__":
    unittest.main()
