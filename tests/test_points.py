"""A point, in each form."""

import unittest

from helper import SMALL, form_message, sent_after, started, told_points

COLORS = (0x000000, 0xFFFFFF, 0xFF0000, 0x00FF00, 0x0000FF, 0x123456)


def points_in(colors, **form):
    screen = started(len(colors), 1)
    sent_after(screen, form_message(**form))
    screen.put(0, 0, len(colors), 1, list(colors))
    return told_points(screen, 0, 0, len(colors), 1).hex(" ", form.get("bits", 32) // 8)


class PointTest(unittest.TestCase):
    def test_first_form(self):
        screen = started(6, 1)
        screen.put(0, 0, 6, 1, list(COLORS))
        self.assertEqual(told_points(screen, 0, 0, 6, 1).hex(" ", 4), "00000000 ffffff00 0000ff00 00ff0000 ff000000 56341200")

    def test_32_bits(self):
        self.assertEqual(points_in(COLORS, order=0), "00000000 ffffff00 0000ff00 00ff0000 ff000000 56341200")
        self.assertEqual(points_in(COLORS, order=1), "00000000 00ffffff 00ff0000 0000ff00 000000ff 00123456")

    def test_32_bits_shifted_otherwise(self):
        self.assertEqual(points_in(COLORS, order=1, depth=32, shifts=(0, 24, 8)),
                         "00000000 ff00ffff 000000ff ff000000 0000ff00 34005612")

    def test_16_bits(self):
        # 0x12, 0x34, 0x56 become (18*31+127)//255 = 2, (52*63+127)//255 = 13, (86*31+127)//255 = 10.
        form = {"bits": 16, "depth": 16, "greatest": (31, 63, 31), "shifts": (11, 5, 0)}
        self.assertEqual(points_in(COLORS, order=1, **form), "0000 ffff f800 07e0 001f 11aa")
        self.assertEqual(points_in(COLORS, order=0, **form), "0000 ffff 00f8 e007 1f00 aa11")

    def test_8_bits(self):
        # 0x12, 0x34, 0x56 become (18*7+127)//255 = 0, (52*7+127)//255 = 1, (86*3+127)//255 = 1.
        for order in (0, 1):
            self.assertEqual(points_in(COLORS, order=order, **SMALL), "00 ff e0 1c 03 05")

    def test_cut_after_127_is_added(self):
        # At a greatest of 1: 127 gives 254 / 255, and 128 gives 255 / 255.
        form = {"bits": 8, "depth": 3, "greatest": (1, 1, 1), "shifts": (2, 1, 0)}
        self.assertEqual(points_in((0x7F7F7F, 0x80807F, 0x7F7F80, 0x807F7F), **form), "00 06 01 04")

    def test_greatest_above_255(self):
        # 128 * 65535 + 127 = 8388607, and 8388607 // 255 = 32896.
        form = {"depth": 32, "greatest": (1, 65535, 1), "shifts": (16, 0, 17), "order": 1}
        self.assertEqual(points_in((0x008000, 0x00FF00, 0x000100, 0xFFFFFF), **form),
                         "00008080 0000ffff 00000101 0003ffff")

    def test_each_shade(self):
        form = {"bits": 16, "depth": 16, "greatest": (1, 31, 1), "shifts": (14, 8, 15), "order": 1}
        shades = list(range(256))
        expected = " ".join(f"{(shade * 31 + 127) // 255:02x}00" for shade in shades)
        self.assertEqual(points_in([shade * 256 for shade in shades], **form), expected)

    def test_what_is_told_later_is_in_the_later_form(self):
        screen = started(1, 1)
        screen.fill(0, 0, 1, 1, 0xFF0000)
        self.assertEqual(told_points(screen, 0, 0, 1, 1), b"\0\0\xff\0")
        sent_after(screen, form_message(**SMALL))
        self.assertEqual(told_points(screen, 0, 0, 1, 1), b"\xe0")
        sent_after(screen, form_message(order=1))
        self.assertEqual(told_points(screen, 0, 0, 1, 1), b"\0\xff\0\0")


if __name__ == "__main__":
    unittest.main()
