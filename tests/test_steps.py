"""The first three steps of the line (point 3)."""

import unittest

from farscreen.screen import answers
from helper import FIRST_FORM, HELLO, VERSIONS, begin, begun, came, events, ones, pointer_event, seen, u16, u32


def one_by_one(data):
    return [number for octet in data for number in came(bytes([octet]))]


class HelloTest(unittest.TestCase):
    def test_hello_is_sent_at_the_beginning(self):
        self.assertEqual(begun(3, 2).output(), b"RFB 003.008\n")

    def test_no_byte_at_all(self):
        self.assertEqual(answers(begin(1, 1) + came(b"") + came(b"")), ones(0, 0, 0))

    def test_known_versions(self):
        for version, step, sent in ((3, 2, b"\0\0\0\1"), (7, 1, b"\1\1"), (8, 1, b"\1\1")):
            screen = begun(3, 2)
            screen.output()
            self.assertEqual(screen.come(VERSIONS[version]), step)
            self.assertEqual(screen.output(), sent)

    def test_looked_at_when_all_are_there(self):
        for version, step in ((3, 2), (7, 1), (8, 1)):
            calls = begin(1, 1) + one_by_one(VERSIONS[version])
            self.assertEqual(answers(calls), ones(0, *[0] * 11, step))

    def test_other_twelve_bytes_close(self):
        wrong = [b"RFB 003.004\n", b"RFB 003.009\n", b"RFB 003.000\n", b"RFB 004.008\n", b"RFB 013.008\n",
                 b"RFB 103.008\n", b"RFB 003.108\n", b"RFB 003.018\n", b"RFB 003.008\r", b"rfb 003.008\n",
                 b"RFB 003:008\n", b"RFB 003.08\n\n", b"\0" * 12, b"\xff" * 12]
        wrong += [HELLO[:place] + bytes([HELLO[place] ^ 128]) + HELLO[place + 1:] for place in range(12)]
        for data in wrong:
            screen = begun(3, 2)
            screen.output()
            self.assertEqual(screen.come(data[:11]), 0, data)
            self.assertEqual(screen.come(data[11:]), 4, data)
            self.assertEqual(screen.output(), b"")

    def test_each_cut(self):
        for version in VERSIONS:
            whole = begun(3, 2)
            whole.come(VERSIONS[version])
            for place in range(13):
                screen = begun(3, 2)
                screen.come(VERSIONS[version][:place])
                screen.come(VERSIONS[version][place:])
                self.assertEqual(seen(screen), seen(whole))

    def test_nothing_is_looked_at_after_close(self):
        screen = begun(3, 2)
        self.assertEqual(screen.come(b"RFB 003.005\n" + HELLO + b"\1\1"), 4)
        self.assertEqual(screen.come(HELLO + b"\1\1"), 4)
        self.assertEqual(screen.come(b""), 4)
        # What waited before the close is still there.
        self.assertEqual(screen.output(), HELLO)


class ChoiceTest(unittest.TestCase):
    def test_right(self):
        for version, sent in ((7, b""), (8, b"\0\0\0\0")):
            screen = begun(3, 2)
            screen.come(VERSIONS[version])
            screen.output()
            self.assertEqual(screen.come(b"\1"), 2)
            self.assertEqual(screen.output(), sent)

    def test_wrong(self):
        for version, sent in ((7, b""), (8, b"\0\0\0\1\0\0\0\7unknown")):
            for octet in (0, 2, 3, 16, 49, 255):
                screen = begun(3, 2)
                screen.come(VERSIONS[version])
                screen.output()
                self.assertEqual(screen.come(bytes([octet]) + b"\1\1"), 4)
                self.assertEqual(screen.come(b"\1\1"), 4)
                self.assertEqual(screen.output(), sent)

    def test_wrong_with_more_behind(self):
        calls = begin(1, 1) + came(HELLO) + came(b"\2") + came(b"\1") + came(b"\1")
        self.assertEqual(answers(calls), ones(0, 1, 4, 4, 4))

    def test_left_out_at_three(self):
        calls = begin(1, 1) + came(VERSIONS[3]) + came(b"\0")
        self.assertEqual(answers(calls), ones(0, 2, 3))


class ShareTest(unittest.TestCase):
    def test_any_byte(self):
        for octet in (0, 1, 2, 127, 255):
            calls = begin(1, 1) + came(HELLO) + came(b"\1") + came(bytes([octet])) + came(b"")
            self.assertEqual(answers(calls), ones(0, 1, 2, 3, 3))

    def test_what_is_sent(self):
        for w, h, name in ((1, 1, b""), (640, 480, b"a"), (300, 257, bytes(range(192, 256))), (256, 255, b"\0\n")):
            screen = begun(w, h, name)
            screen.come(HELLO + b"\1")
            screen.output()
            self.assertEqual(screen.come(b"\0"), 3)
            self.assertEqual(screen.output(), u16(w) + u16(h) + FIRST_FORM + u32(len(name)) + name)


class AllStepsTest(unittest.TestCase):
    def sent(self, version):
        between = {3: b"\0\0\0\1", 7: b"\1\1", 8: b"\1\1\0\0\0\0"}
        return HELLO + between[version] + u16(3) + u16(2) + FIRST_FORM + u32(2) + b"me"

    def test_all_at_once(self):
        for version, data in ((3, b"\0"), (7, b"\1\0"), (8, b"\1\0")):
            screen = begun(3, 2, b"me")
            self.assertEqual(screen.come(VERSIONS[version] + data), 3)
            self.assertEqual(screen.output(), self.sent(version))
            self.assertEqual(answers(begin(3, 2) + came(VERSIONS[version] + data)), ones(0, 3))

    def test_byte_by_byte(self):
        for version, data in ((3, b"\0"), (7, b"\1\0"), (8, b"\1\0")):
            screen = begun(3, 2, b"me")
            steps = [screen.come(bytes([octet])) for octet in VERSIONS[version] + data]
            self.assertEqual(steps, [0] * 11 + ([2, 3] if version == 3 else [1, 2, 3]))
            self.assertEqual(screen.output(), self.sent(version))

    def test_messages_in_the_same_input(self):
        screen = begun(3, 2)
        self.assertEqual(screen.come(HELLO + b"\1\1" + b"\5\1\0\2\0\3" + b"\4\1"), 3)
        self.assertEqual(events(screen), [pointer_event(1, 2, 3)])


if __name__ == "__main__":
    unittest.main()
