"""event (point 5): what was handed on is given out, the first first."""

import unittest

from farscreen.screen import answers
from helper import (HELLO, LEAST_NUMBER, MOST_EVENT, MOST_NUMBER, ask_message, begin, begun, event, events, key_event,
                    key_message, parted, pointer_event, pointer_message, seen, start_bytes, started, text_event,
                    text_message)

LONGEST = bytes(place * 7 % 256 for place in range(MOST_EVENT))


def handed_on(*messages):
    """A screen on which these messages have come."""
    screen = started(4, 3)
    if screen.come(b"".join(messages)) != 3:
        raise ValueError("a message is wrong")
    return screen


class EventTest(unittest.TestCase):
    def test_nothing_there(self):
        for most in (0, 1, MOST_EVENT):
            self.assertEqual(parted(answers(begin(2, 2) + event(most))), [[0], [-2]])
            self.assertEqual(handed_on().event(most), [-2])
            self.assertEqual(handed_on(ask_message(0, 0, 0, 1, 1)).event(most), [-2])

    def test_a_key(self):
        for down, key in ((0, 0), (1, 0), (0, 1), (1, 0xFF0D), (1, 0x01020304), (0, 2 ** 32 - 1)):
            for most in (0, 1, MOST_EVENT):
                screen = handed_on(key_message(down, key))
                self.assertEqual(screen.event(most), [0, 1, down, key, 0])
                self.assertEqual(screen.event(most), [-2])

    def test_a_pointer(self):
        for buttons, x, y in ((0, 0, 0), (1, 2, 3), (128, 258, 772), (255, 65535, 0), (0, 0, 65535)):
            for most in (0, 1, MOST_EVENT):
                screen = handed_on(pointer_message(buttons, x, y))
                self.assertEqual(screen.event(most), [0, 2, buttons, x, y])
                self.assertEqual(screen.event(most), [-2])

    def test_a_text(self):
        for text in (b"", b"a", b"some text", b"\0\xff\n", bytes(range(256)), LONGEST[:4095], LONGEST):
            for most in (len(text), min(len(text) + 1, MOST_EVENT), MOST_EVENT):
                screen = handed_on(text_message(text))
                self.assertEqual(screen.event(most), [len(text), *text, 3, len(text), 0, 0])
                self.assertEqual(screen.event(most), [-2])

    def test_a_text_that_is_longer_than_most_stays(self):
        for text in (b"a", b"ab", b"some text", LONGEST[:4095], LONGEST):
            screen = handed_on(text_message(text), key_message(1, 5))
            for most in (0, len(text) // 2, len(text) - 1):
                self.assertEqual(screen.event(most), [-6])
                self.assertEqual(screen.told(), (3, 0, 2, 12))
            self.assertEqual(screen.event(len(text)), text_event(text))
            self.assertEqual(screen.event(0), key_event(1, 5))
            self.assertEqual(screen.event(0), [-2])

    def test_only_the_first_is_held_against_most(self):
        screen = handed_on(key_message(0, 1), text_message(b"long"))
        self.assertEqual(screen.event(0), key_event(0, 1))
        self.assertEqual(screen.event(3), [-6])
        self.assertEqual(screen.event(4), text_event(b"long"))

    def test_refused(self):
        for most in (-1, MOST_EVENT + 1, -MOST_EVENT, LEAST_NUMBER, MOST_NUMBER):
            self.assertEqual(parted(answers(begin(2, 2) + event(most))), [[0], [-1]])
            for message in (key_message(1, 1), pointer_message(1, 2, 3), text_message(b""), text_message(LONGEST)):
                before = handed_on(message)
                screen = before.copy()
                self.assertEqual(screen.event(most), [-1])
                self.assertEqual(screen.told(), (3, 0, 1, 12))
                self.assertEqual(events(screen), events(before))

    def test_too_long_and_nothing_has_happened(self):
        before = started(4, 3)
        before.come(text_message(b"text") + pointer_message(1, 2, 3) + ask_message(0, 0, 0, 4, 3) +
                    ask_message(1, 0, 0, 1, 1))
        screen = before.copy()
        self.assertEqual(screen.event(3), [-6])
        self.assertEqual(seen(screen), seen(before))

    def test_nothing_there_and_nothing_has_happened(self):
        before = started(4, 3)
        before.come(ask_message(0, 0, 0, 4, 3) + ask_message(1, 0, 0, 1, 1))
        screen = before.copy()
        self.assertEqual(screen.event(), [-2])
        self.assertEqual(seen(screen), seen(before))

    def test_it_sees_to_nothing_else(self):
        screen = started(4, 3)
        screen.come(key_message(1, 1) + ask_message(0, 0, 0, 4, 3) + ask_message(0, 0, 0, 1, 1))
        before = screen.told()
        screen.event()
        self.assertEqual(screen.told(), (before[0], before[1], 0, before[3]))

    def test_cut_messages_hand_on_nothing(self):
        for message in (key_message(1, 1), pointer_message(1, 2, 3), text_message(b""), text_message(b"abc")):
            screen = handed_on(message[:-1])
            self.assertEqual(screen.event(), [-2])
            screen.come(message[-1:])
            self.assertEqual(screen.told()[2], 1)

    def test_wrong_messages_hand_on_nothing(self):
        for message in (key_message(2, 1), b"\6\0\0\0\0\0\x10\1", b"\7"):
            screen = started(4, 3)
            self.assertEqual(screen.come(message + key_message(1, 1)), 4)
            self.assertEqual(screen.event(), [-2])


class OrderTest(unittest.TestCase):
    def test_the_first_first(self):
        screen = handed_on(pointer_message(1, 2, 3), text_message(b"t"), key_message(0, 7), text_message(b""),
                           key_message(1, 7))
        self.assertEqual(events(screen), [pointer_event(1, 2, 3), text_event(b"t"), key_event(0, 7), text_event(b""),
                                          key_event(1, 7)])

    def test_those_that_come_later_stand_behind(self):
        screen = handed_on(key_message(1, 1), key_message(1, 2))
        self.assertEqual(screen.event(), key_event(1, 1))
        screen.come(pointer_message(0, 1, 1))
        self.assertEqual(screen.event(), key_event(1, 2))
        screen.come(text_message(b"last"))
        self.assertEqual([screen.event(), screen.event(), screen.event()],
                         [pointer_event(0, 1, 1), text_event(b"last"), [-2]])

    def test_before_and_between_outputs(self):
        screen = begun(2, 2)
        screen.come(start_bytes() + key_message(1, 1) + key_message(0, 1))
        self.assertEqual(screen.event(), key_event(1, 1))
        self.assertEqual(len(screen.output()), 42)
        self.assertEqual(screen.event(), key_event(0, 1))


class SixtyFourTest(unittest.TestCase):
    def keys(self, first, behind):
        return b"".join(key_message(1, key) for key in range(first, behind))

    def test_as_many_are_kept(self):
        for count in (63, 64):
            screen = handed_on(self.keys(0, count))
            self.assertEqual(screen.told(), (3, 0, count, 12))
            self.assertEqual(events(screen), [key_event(1, key) for key in range(count)])

    def test_more_are_lost(self):
        for count in (65, 66, 100, 300):
            screen = handed_on(self.keys(0, count))
            self.assertEqual(screen.told(), (3, 0, 64, 12))
            self.assertEqual(events(screen), [key_event(1, key) for key in range(64)])

    def test_of_each_kind(self):
        for message in (key_message(0, 9), pointer_message(1, 1, 1), text_message(b""), text_message(b"lost")):
            screen = handed_on(self.keys(0, 63), pointer_message(1, 2, 3))
            self.assertEqual(screen.come(message), 3)
            self.assertEqual(events(screen), [key_event(1, key) for key in range(63)] + [pointer_event(1, 2, 3)])

    def test_texts_count_one_each(self):
        screen = handed_on(*[text_message(bytes([number]) * 400) for number in range(65)])
        self.assertEqual(events(screen), [text_event(bytes([number]) * 400) for number in range(64)])

    def test_room_again_after_one_has_been_taken(self):
        screen = handed_on(self.keys(0, 70))
        self.assertEqual(screen.event(), key_event(1, 0))
        self.assertEqual(screen.come(text_message(b"kept") + key_message(1, 98)), 3)
        self.assertEqual(screen.told(), (3, 0, 64, 12))
        self.assertEqual(events(screen), [key_event(1, key) for key in range(1, 64)] + [text_event(b"kept")])

    def test_no_room_after_a_refusal(self):
        screen = handed_on(text_message(b"text"), self.keys(1, 64))
        for most in (3, -1, 4097):
            self.assertLess(screen.event(most)[0], 0)
        screen.come(key_message(1, 99))
        self.assertEqual(events(screen), [text_event(b"text")] + [key_event(1, key) for key in range(1, 64)])

    def test_room_for_all_after_all_have_been_taken(self):
        screen = handed_on(self.keys(0, 64))
        screen.calls += event() * 64
        self.assertEqual(screen.event(), [-2])
        screen.come(self.keys(100, 170))
        self.assertEqual(events(screen), [key_event(1, key) for key in range(100, 164)])

    def test_messages_go_on_while_there_is_no_room(self):
        screen = handed_on(self.keys(0, 64))
        self.assertEqual(screen.come(key_message(1, 1) + ask_message(0, 0, 0, 1, 1)), 3)
        self.assertEqual(screen.told(), (3, 20, 64, 11))
        self.assertEqual(screen.come(key_message(2, 1)), 4)


class CloseTest(unittest.TestCase):
    def test_given_out_still(self):
        screen = handed_on(key_message(1, 1), text_message(b"ab"))
        self.assertEqual(screen.come(pointer_message(1, 2, 3) + b"\x99" + key_message(1, 2)), 4)
        self.assertEqual(screen.come(key_message(1, 2)), 4)
        self.assertEqual(screen.told(), (4, 0, 3, 12))
        self.assertEqual(screen.event(0), key_event(1, 1))
        self.assertEqual(screen.event(1), [-6])
        self.assertEqual(screen.event(-1), [-1])
        self.assertEqual(screen.event(2), text_event(b"ab"))
        self.assertEqual(screen.event(0), pointer_event(1, 2, 3))
        self.assertEqual(screen.event(0), [-2])
        self.assertEqual(screen.told(), (4, 0, 0, 12))

    def test_sixty_four_of_them(self):
        keys = b"".join(key_message(1, key) for key in range(70))
        screen = started(2, 2)
        self.assertEqual(screen.come(keys + b"\1"), 4)
        self.assertEqual(events(screen), [key_event(1, key) for key in range(64)])


class BeginAgainTest(unittest.TestCase):
    def before(self):
        first = handed_on(text_message(b"text"), key_message(1, 1), pointer_message(1, 2, 3))
        refused = first.copy()
        refused.event(3)
        taken = first.copy()
        taken.event()
        closed = first.copy()
        closed.come(b"\1")
        full = handed_on(*[key_message(1, key) for key in range(64)])
        return (first, refused, taken, closed, full, handed_on())

    def test_refused(self):
        for before in self.before():
            screen = before.copy()
            self.assertEqual(screen.begin(0, 1), -1)
            self.assertEqual(screen.begin(1, 481), -1)
            self.assertEqual(screen.told(), before.told())
            self.assertEqual(events(screen), events(before))

    def test_not_refused(self):
        for screen in self.before():
            self.assertEqual(screen.begin(2, 2), 0)
            self.assertEqual(screen.told(), (0, 12, 0, 4))
            self.assertEqual(screen.event(), [-2])
            self.assertEqual(screen.come(start_bytes() + key_message(1, 77)), 3)
            self.assertEqual(events(screen), [key_event(1, 77)])

    def test_a_cut_message_is_gone(self):
        screen = handed_on(key_message(1, 1)[:5])
        self.assertEqual(screen.begin(2, 2), 0)
        self.assertEqual(screen.come(HELLO), 1)


if __name__ == "__main__":
    unittest.main()
