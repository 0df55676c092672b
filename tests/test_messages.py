"""The messages of step 4 (point 3), and what they hand on."""

import unittest

from farscreen.screen import answers
from farscreen.session import Session
from helper import (HELLO, SMALL, ask_message, begin, came, events, form_message, key_event, key_message, ones,
                    pointer_event, pointer_message, seen, seen_by_viewer, started, text_event, text_message, u32, way_of,
                    ways_message)

READY = begin(20, 10) + came(HELLO + b"\1\1")

RIGHT = (
    form_message(), form_message(**SMALL), form_message(bits=16, depth=16, order=1, greatest=(31, 63, 31),
                                                        shifts=(11, 5, 0), before=b"\1\2\3", behind=b"\4\5\6"),
    ways_message(), ways_message(5), ways_message(1, 2, 5), ways_message(7, 16, 2 ** 32 - 239),
    ask_message(0, 0, 0, 20, 10), ask_message(1, 19, 9, 1, 1), key_message(0, 2 ** 32 - 1), key_message(1, 65, b"ab"),
    pointer_message(255, 65535, 65535), pointer_message(0, 0, 0), text_message(b""), text_message(b"some text", b"abc"),
    text_message(bytes(range(256))),
)


def wrong_forms():
    yield from (form_message(bits=bits, depth=0, greatest=(1, 1, 1), shifts=(0, 1, 2))
                for bits in (0, 1, 4, 7, 9, 15, 24, 31, 33, 64, 255))
    yield from (form_message(bits=bits, depth=depth, greatest=(1, 1, 1), shifts=(0, 1, 2))
                for bits, depth in ((8, 9), (16, 17), (32, 33), (8, 255), (32, 255)))
    yield from (form_message(order=order) for order in (2, 255))
    yield from (form_message(true=true) for true in (0, 2, 255))
    for place in range(3):
        for number in (0, 2, 4, 5, 6, 254, 256, 65534, 32768):
            greatest = [1, 1, 1]
            greatest[place] = number
            shifts = [0, 1, 2]
            shifts[place] = 3
            yield form_message(greatest=greatest, shifts=shifts)
    yield from (form_message(greatest=(1, 1, 1), shifts=shifts)
                for shifts in ((0, 0, 1), (0, 1, 0), (1, 0, 0), (3, 3, 3), (32, 0, 1), (0, 32, 1), (0, 1, 32),
                               (255, 1, 2), (0, 254, 2)))
    yield form_message(shifts=(16, 8, 1))
    yield form_message(shifts=(25, 8, 0))
    yield form_message(shifts=(15, 8, 0))
    yield form_message(bits=16, depth=16, greatest=(63, 63, 31), shifts=(11, 5, 0))
    yield form_message(bits=8, depth=8, greatest=(7, 7, 3), shifts=(6, 3, 1))
    yield form_message(bits=16, depth=16)


def wrong_messages():
    """Those that close when all of the message is there."""
    yield from wrong_forms()
    for box in ((0, 0, 0, 1), (0, 0, 1, 0), (0, 0, 21, 1), (0, 0, 1, 11), (20, 0, 1, 1), (0, 10, 1, 1), (1, 0, 20, 10),
                (0, 1, 20, 10), (65535, 0, 1, 1), (0, 65535, 1, 1), (65535, 65535, 65535, 65535), (0, 0, 0, 0)):
        yield ask_message(0, *box)
        yield ask_message(1, *box)
    yield from (ask_message(only_changed, 0, 0, 20, 10) for only_changed in (2, 3, 255))
    yield from (key_message(down, 65) for down in (2, 3, 255))


def all_seen(screen):
    return (events(screen), seen(screen), seen_by_viewer(screen))


class CutTest(unittest.TestCase):
    def test_right_ones_cut_at_every_place(self):
        for message in RIGHT:
            whole = started(20, 10)
            before = seen(whole)
            self.assertEqual(whole.come(message), 3, message)
            expected = all_seen(whole)
            for place in range(len(message) + 1):
                screen = started(20, 10)
                self.assertEqual(screen.come(message[:place]), 3)
                if place < len(message):
                    self.assertEqual(seen(screen), before, (message, place))
                self.assertEqual(screen.come(message[place:]), 3)
                self.assertEqual(all_seen(screen), expected, (message, place))

    def test_right_ones_do_something(self):
        for message in RIGHT:
            if message not in (form_message(), ways_message(), ways_message(7, 16, 2 ** 32 - 239)):
                screen = started(20, 10)
                before = all_seen(screen)
                screen.come(message)
                self.assertNotEqual(all_seen(screen), before, message)

    def test_wrong_ones_close_when_all_is_there(self):
        for message in wrong_messages():
            for place in range(1, len(message)):
                calls = READY + came(message[:place]) + came(message[place:]) + came(key_message(1, 1))
                self.assertEqual(answers(calls), ones(0, 3, 3, 4, 4), (message, place))

    def test_wrong_ones_do_nothing_but_close(self):
        for message in wrong_messages():
            screen = started(20, 10)
            self.assertEqual(screen.come(message + key_message(1, 1) + ask_message(0, 0, 0, 1, 1)), 4)
            self.assertEqual(screen.told(), (4, 0, 0, 200), message)
            screen.fill(0, 0, 20, 10, 5)
            self.assertEqual(screen.output(), b"")
            self.assertEqual(screen.event(), [-2])
            self.assertEqual(screen.told(), (4, 0, 0, 200), message)

    def test_all_right_ones_byte_by_byte(self):
        data = b"".join(message for message in RIGHT if len(message) < 200)
        whole = started(20, 10)
        whole.come(data)
        screen = started(20, 10)
        for octet in data:
            screen.calls += came(bytes([octet]))
        self.assertEqual(screen.come(b""), 3)
        self.assertEqual(all_seen(screen), all_seen(whole))


class UnknownTest(unittest.TestCase):
    def test_unknown_first_byte_closes_at_once(self):
        for first in [1] + list(range(7, 256)):
            self.assertEqual(answers(READY + came(bytes([first]))), ones(0, 3, 4), first)

    def test_behind_another_message(self):
        screen = started(20, 10)
        self.assertEqual(screen.come(key_message(1, 1) + b"\1" + key_message(1, 2)), 4)
        self.assertEqual(events(screen), [key_event(1, 1)])
        self.assertEqual(screen.come(key_message(1, 2)), 4)
        self.assertEqual(events(screen), [key_event(1, 1)])

    def test_what_waits_is_kept(self):
        screen = started(2, 1)
        screen.come(ask_message(0, 0, 0, 1, 1) + ask_message(0, 0, 0, 2, 1) + b"\7")
        self.assertEqual(screen.output(), b"\0\0\0\1" + b"\0\0\0\0\0\1\0\1" + b"\0\0\0\0" + b"\0\0\0\0")
        self.assertEqual(screen.output(), b"")
        screen.fill(0, 0, 2, 1, 5)
        screen.put(0, 0, 2, 1, [6, 7])
        self.assertEqual(screen.output(), b"")


class FormTest(unittest.TestCase):
    def test_edges_that_are_right(self):
        for message in (
                form_message(bits=8, depth=0, greatest=(1, 1, 1), shifts=(0, 1, 2)),
                form_message(bits=8, depth=8, greatest=(1, 1, 1), shifts=(5, 6, 7)),
                form_message(bits=16, depth=16, greatest=(1, 1, 1), shifts=(15, 1, 0)),
                form_message(bits=32, depth=32, greatest=(1, 1, 1), shifts=(0, 31, 30)),
                form_message(bits=32, depth=0, greatest=(32767, 255, 255), shifts=(16, 8, 0)),
                form_message(bits=32, depth=32, greatest=(65535, 32767, 1), shifts=(0, 16, 31)),
                form_message(bits=8, depth=3, greatest=(1, 63, 1), shifts=(7, 1, 0)),
                form_message(order=1), form_message(order=0), form_message(before=b"\xff" * 3, behind=b"\xff" * 3)):
            self.assertEqual(answers(READY + came(message)), ones(0, 3, 3), message)

    def test_each_greatest(self):
        for bits in range(1, 17):
            message = form_message(depth=32, greatest=(1, 2 ** bits - 1, 1), shifts=(0, 1, 31))
            self.assertEqual(answers(READY + came(message)), ones(0, 3, 3))

    def test_the_first_form(self):
        screen = started(20, 10)
        before = all_seen(screen)
        screen.come(form_message())
        self.assertEqual(all_seen(screen), before)


class WaysTest(unittest.TestCase):
    def test_the_first_that_is_known(self):
        for ways, way in (((0,), 0), ((2,), 2), ((5,), 5), ((5, 2, 0), 5), ((2, 5), 2), ((0, 5), 0), ((1, 3, 4, 6, 5, 2), 5),
                          ((2 ** 32 - 5, 2), 2), ((256 * 5, 65536 * 2, 2 ** 24 * 5, 2 ** 31 + 2), 0), ((16,), 0)):
            screen = started(20, 10)
            self.assertEqual(screen.come(ways_message(*ways, between=9)), 3)
            self.assertEqual(way_of(screen), way, ways)

    def test_none_that_is_known_puts_it_back(self):
        for ways in ((), (1,), (7, 6)):
            screen = started(20, 10)
            screen.come(ways_message(5))
            self.assertEqual(way_of(screen), 5)
            screen.come(ways_message(*ways))
            self.assertEqual(way_of(screen), 0)

    def test_many(self):
        ways = [7] * 7000 + [5]
        screen = started(20, 10)
        self.assertEqual(screen.come(ways_message(*ways) + key_message(1, 9)), 3)
        self.assertEqual(way_of(screen), 5)
        self.assertEqual(events(screen), [key_event(1, 9)])

    def test_the_most(self):
        # No list of calls is so long: the bytes come to the session itself.
        data = ways_message(*[7] * 65534 + [2])
        session = Session()
        session.begin(20, 10, [])
        session.come(list(HELLO + b"\1\1"))
        for place in range(0, len(data), 65535):
            self.assertEqual(session.come(list(data[place:place + 65535])), 3)
        self.assertEqual(session.come(list(key_message(1, 9) + ask_message(0, 0, 0, 1, 1))), 3)
        self.assertEqual(session.told(), [0, 3, 42, 1, 200])
        session.output(42)
        self.assertEqual(session.output(99), [24, 0, 0, 0, 1, 0, 0, 0, 0, 0, 1, 0, 1, 0, 0, 0, 2] + [0] * 8)


class HandedOnTest(unittest.TestCase):
    def test_keys(self):
        screen = started(20, 10)
        screen.come(key_message(1, 0xFF0D) + key_message(0, 0) + key_message(1, 0x01020304, b"\xff\xff"))
        self.assertEqual(events(screen), [key_event(1, 0xFF0D), key_event(0, 0), key_event(1, 0x01020304)])

    def test_pointers(self):
        screen = started(20, 10)
        screen.come(pointer_message(0, 0, 0) + pointer_message(255, 65535, 258) + pointer_message(1, 258, 65535))
        self.assertEqual(events(screen), [pointer_event(0, 0, 0), pointer_event(255, 65535, 258),
                                          pointer_event(1, 258, 65535)])

    def test_texts(self):
        screen = started(20, 10)
        screen.come(text_message(b"") + text_message(b"abc") + text_message(b"\0\xff", b"xyz"))
        self.assertEqual(events(screen), [text_event(b""), text_event(b"abc"), text_event(b"\0\xff")])

    def test_longest_text(self):
        text = bytes(place % 256 for place in range(4096))
        screen = started(20, 10)
        self.assertEqual(screen.come(text_message(text) + key_message(0, 1)), 3)
        self.assertEqual(events(screen), [text_event(text), key_event(0, 1)])

    def test_longer_text_closes_as_soon_as_its_length_is_there(self):
        for length in (4097, 65536, 2 ** 24, 2 ** 31, 2 ** 32 - 1):
            head = b"\6\0\0\0" + u32(length)
            for place in range(1, 8):
                calls = READY + came(head[:place]) + came(head[place:]) + came(b"")
                self.assertEqual(answers(calls), ones(0, 3, 3, 4, 4))


if __name__ == "__main__":
    unittest.main()
