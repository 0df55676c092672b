"""The ways 0, 2 and 5, held against bytes worked out by hand, and read back as a viewer does."""

import random
import unittest

from helper import SMALL, ask_message, form_message, sent_after, started, told_points, ways_message

# Colors, by the letters in which the tests draw; in the form SMALL they are the points below.
LETTERS = {".": 0x000000, "w": 0xFFFFFF, "r": 0xFF0000, "g": 0x00FF00, "b": 0x0000FF, "v": 0xFEFEFE}
BLACK, WHITE, RED, GREEN, BLUE = 0x00, 0xFF, 0xE0, 0x1C, 0x03

HIGH = {"bits": 16, "depth": 16, "order": 1, "greatest": (31, 63, 31), "shifts": (11, 5, 0)}
LOW = dict(HIGH, order=0)
WIDE = {"order": 1}
NARROW = {"order": 0}


def drawn(rows, way, form):
    """A screen whose screen shows these rows of letters."""
    screen = started(len(rows[0]), len(rows))
    sent_after(screen, form_message(**form), ways_message(way))
    screen.put(0, 0, len(rows[0]), len(rows), [LETTERS[letter] for row in rows for letter in row])
    return screen


def shown(rows, way, form=None):
    """The bytes of the whole screen's points."""
    screen = drawn(rows, way, SMALL if form is None else form)
    return list(told_points(screen, 0, 0, len(rows[0]), len(rows)))


def tile(*rows, w=16, h=16):
    """Rows of letters, filled up with black."""
    full = [row.ljust(w, ".") for row in rows]
    return full + ["." * w] * (h - len(full))


def beside(*tiles):
    return ["".join(rows) for rows in zip(*tiles)]


class WayHeadTest(unittest.TestCase):
    def test_the_way_is_sent(self):
        for way in (0, 2, 5):
            screen = drawn(["...", "..."], way, SMALL)
            sent = sent_after(screen, ask_message(0, 1, 0, 2, 2))
            self.assertEqual(sent[:16], bytes([0, 0, 0, 1, 0, 1, 0, 0, 0, 2, 0, 2, 0, 0, 0, way]))


class PlainTest(unittest.TestCase):
    def test_row_by_row(self):
        self.assertEqual(shown([".wr", "gb."], 0), [BLACK, WHITE, RED, GREEN, BLUE, BLACK])
        self.assertEqual(shown(["rg"], 0, HIGH), [0xF8, 0x00, 0x07, 0xE0])
        self.assertEqual(shown(["rg"], 0, LOW), [0x00, 0xF8, 0xE0, 0x07])
        self.assertEqual(shown(["r", "g"], 0, WIDE), [0, 255, 0, 0, 0, 0, 255, 0])

    def test_a_part(self):
        screen = drawn([".wr.", "gb.w", "rrgg"], 0, SMALL)
        self.assertEqual(list(told_points(screen, 1, 1, 3, 2)), [BLUE, BLACK, WHITE, RED, GREEN, GREEN])


class RunsTest(unittest.TestCase):
    def test_no_runs(self):
        self.assertEqual(shown(["rrr", "rrr"], 2), [0, 0, 0, 0, RED])
        self.assertEqual(shown(["r"], 2), [0, 0, 0, 0, RED])

    def test_runs_of_several_colors(self):
        self.assertEqual(shown(["..ww.", "rrg.w"], 2), [
            0, 0, 0, 4, BLACK,
            WHITE, 0, 2, 0, 0, 0, 2, 0, 1,
            RED, 0, 0, 0, 1, 0, 2, 0, 1,
            GREEN, 0, 2, 0, 1, 0, 1, 0, 1,
            WHITE, 0, 4, 0, 1, 0, 1, 0, 1])

    def test_runs_end_with_their_row(self):
        self.assertEqual(shown(["..w", "w.."], 2), [
            0, 0, 0, 2, BLACK, WHITE, 0, 2, 0, 0, 0, 1, 0, 1, WHITE, 0, 0, 0, 1, 0, 1, 0, 1])
        self.assertEqual(shown([".w", ".w", ".."], 2), [
            0, 0, 0, 2, BLACK, WHITE, 0, 1, 0, 0, 0, 1, 0, 1, WHITE, 0, 1, 0, 1, 0, 1, 0, 1])

    def test_the_first_of_the_commonest_is_the_ground(self):
        self.assertEqual(shown(["wr"], 2), [0, 0, 0, 1, WHITE, RED, 0, 1, 0, 0, 0, 1, 0, 1])
        self.assertEqual(shown(["rw"], 2), [0, 0, 0, 1, RED, WHITE, 0, 1, 0, 0, 0, 1, 0, 1])
        self.assertEqual(shown(["gwwrr"], 2), [
            0, 0, 0, 2, WHITE, GREEN, 0, 0, 0, 0, 0, 1, 0, 1, RED, 0, 3, 0, 0, 0, 2, 0, 1])
        self.assertEqual(shown(["gr", "rg"], 2), [
            0, 0, 0, 2, GREEN, RED, 0, 1, 0, 0, 0, 1, 0, 1, RED, 0, 0, 0, 1, 0, 1, 0, 1])

    def test_the_commonest_by_points_not_by_runs(self):
        self.assertEqual(shown(["wrwrwbbbb"], 2)[:5], [0, 0, 0, 5, BLUE])

    def test_places_are_in_the_rectangle(self):
        screen = drawn(["rrrrr", "r...r", "r.w.r"], 2, SMALL)
        self.assertEqual(list(told_points(screen, 1, 1, 3, 2)), [0, 0, 0, 1, BLACK, WHITE, 0, 1, 0, 1, 0, 1, 0, 1])

    def test_the_ground_is_the_rectangle_s(self):
        screen = drawn(["rrrrr", "rgg.r"], 2, SMALL)
        self.assertEqual(list(told_points(screen, 1, 1, 3, 1)), [0, 0, 0, 1, GREEN, BLACK, 0, 2, 0, 0, 0, 1, 0, 1])

    def test_points_of_other_sizes(self):
        run = [0, 0, 0, 1, 0, 2, 0, 1]
        self.assertEqual(shown(["...", "rr."], 2, HIGH), [0, 0, 0, 1, 0, 0, 0xF8, 0] + run)
        self.assertEqual(shown(["...", "rr."], 2, LOW), [0, 0, 0, 1, 0, 0, 0, 0xF8] + run)
        self.assertEqual(shown(["...", "rr."], 2, WIDE), [0, 0, 0, 1, 0, 0, 0, 0, 0, 255, 0, 0] + run)
        self.assertEqual(shown(["...", "rr."], 2, NARROW), [0, 0, 0, 1, 0, 0, 0, 0, 0, 0, 255, 0] + run)

    def test_colors_not_points_are_compared(self):
        # w and v are the same point in this form, but other colors.
        self.assertEqual(shown(["wwv"], 2), [0, 0, 0, 1, WHITE, WHITE, 0, 2, 0, 0, 0, 1, 0, 1])
        self.assertEqual(shown(["wvrrr"], 2), [
            0, 0, 0, 2, RED, WHITE, 0, 0, 0, 0, 0, 1, 0, 1, WHITE, 0, 1, 0, 0, 0, 1, 0, 1])

    def test_numbers_of_two_bytes(self):
        screen = started(640, 480)
        sent_after(screen, form_message(**SMALL), ways_message(2))
        screen.fill(320, 400, 300, 1, 0xFFFFFF)
        self.assertEqual(list(told_points(screen, 0, 0, 640, 480)), [0, 0, 0, 1, BLACK, WHITE, 1, 64, 1, 144, 1, 44, 0, 1])

    def test_numbers_of_runs_of_two_bytes(self):
        screen = started(640, 2)
        sent_after(screen, form_message(**SMALL), ways_message(2))
        screen.put(0, 0, 640, 1, [0, 0xFFFFFF] * 320)
        self.assertEqual(list(told_points(screen, 0, 0, 640, 2))[:5], [0, 0, 1, 64, BLACK])


class TilesTest(unittest.TestCase):
    def test_ground_alone(self):
        self.assertEqual(shown(tile(), 5), [2, BLACK])
        self.assertEqual(shown(["w"], 5), [2, WHITE])
        self.assertEqual(shown(["w"], 5, HIGH), [2, 255, 255])

    def test_the_same_ground_again(self):
        self.assertEqual(shown(beside(tile(), tile(), tile("w" * 16, w=16, h=1) * 16, tile()), 5),
                         [2, BLACK, 0, 2, WHITE, 2, BLACK])

    def test_tiles_row_by_row(self):
        red = ["r" * 16] * 16
        white = ["w" * 16] * 16
        self.assertEqual(shown(beside(tile(), red) + beside(red, white), 5), [2, BLACK, 2, RED, 0, 2, WHITE])

    def test_runs_of_one_color(self):
        self.assertEqual(shown(tile("", "", "...wwwww", "w" * 15), 5),
                         [14, BLACK, WHITE, 2, 0x32, 0x40, 0x03, 0xE0])
        self.assertEqual(shown(tile(*[""] * 15, "." * 15 + "r"), 5), [14, BLACK, RED, 1, 0xFF, 0x00])
        self.assertEqual(shown(tile("w" * 16), 5), [14, BLACK, WHITE, 1, 0x00, 0xF0])

    def test_runs_of_several_colors(self):
        self.assertEqual(shown(tile(".wwr", "", "..r"), 5),
                         [26, BLACK, 3, WHITE, 0x10, 0x10, RED, 0x30, 0x00, RED, 0x22, 0x00])

    def test_the_first_of_the_commonest_is_the_ground(self):
        self.assertEqual(shown(["w" * 16, "r" * 16], 5), [14, WHITE, RED, 1, 0x01, 0xF0])
        self.assertEqual(shown(["r" * 16, "w" * 16], 5), [14, RED, WHITE, 1, 0x01, 0xF0])

    def test_the_color_that_was_left(self):
        one = tile(".ww")
        self.assertEqual(shown(beside(one, one, tile("..r"), one), 5), [
            14, BLACK, WHITE, 1, 0x10, 0x10,
            8, 1, 0x10, 0x10,
            12, RED, 1, 0x20, 0x00,
            12, WHITE, 1, 0x10, 0x10])

    def test_a_tile_without_runs_leaves_the_color_as_it_was(self):
        one = tile(".ww")
        green = ["g" * 16] * 16
        self.assertEqual(shown(beside(one, tile(), green, one), 5), [
            14, BLACK, WHITE, 1, 0x10, 0x10, 0, 2, GREEN, 10, BLACK, 1, 0x10, 0x10])

    def test_no_color_left_at_first_by_tiles_without_runs(self):
        self.assertEqual(shown(beside(tile(), tile(".ww")), 5), [2, BLACK, 12, WHITE, 1, 0x10, 0x10])

    def test_the_ground_is_not_a_color_that_was_left(self):
        white = ["w" * 16] * 15 + ["w..............w"]
        self.assertEqual(shown(beside(tile(".ww"), white), 5), [
            14, BLACK, WHITE, 1, 0x10, 0x10, 14, WHITE, BLACK, 1, 0x1F, 0xD0])

    def test_several_colors_leave_the_ground_and_no_color(self):
        one = tile(".ww")
        many = tile("w.r")
        self.assertEqual(shown(beside(one, many, one, many, many, tile(), one), 5), [
            14, BLACK, WHITE, 1, 0x10, 0x10,
            24, 2, WHITE, 0x00, 0x00, RED, 0x20, 0x00,
            12, WHITE, 1, 0x10, 0x10,
            24, 2, WHITE, 0x00, 0x00, RED, 0x20, 0x00,
            24, 2, WHITE, 0x00, 0x00, RED, 0x20, 0x00,
            0,
            12, WHITE, 1, 0x10, 0x10])

    def test_black_can_be_left(self):
        # Color 0 is a color like others, not the lack of one.
        white = ["w" * 16] * 15 + ["w..............w"]
        self.assertEqual(shown(beside(white, white, tile()), 5), [
            14, WHITE, BLACK, 1, 0x1F, 0xD0, 8, 1, 0x1F, 0xD0, 2, BLACK])

    def test_smaller_tiles_at_the_right_and_below(self):
        rows = ["." * 16 + "ww"] * 16 + ["r" * 16 + "gg", "r" * 13 + "www" + "gg"]
        self.assertEqual(shown(rows, 5), [2, BLACK, 2, WHITE, 14, RED, WHITE, 1, 0xD1, 0x20, 2, GREEN])

    def test_a_rectangle_that_is_not_at_the_corner(self):
        rows = ["." * 40 for row in range(5)] + ["." * 20 + "w" * 5 + "." * 15] + ["." * 40 for row in range(30)]
        screen = drawn(rows, 5, SMALL)
        # From x 3 on, the tiles begin at 3 and 19: the run is the second tile's.
        self.assertEqual(list(told_points(screen, 3, 2, 32, 17)),
                         [2, BLACK, 12, WHITE, 1, 0x13, 0x40, 0, 0])

    def test_each_rectangle_begins_with_nothing_left(self):
        screen = drawn(tile(".ww"), 5, SMALL)
        for times in range(2):
            self.assertEqual(list(told_points(screen, 0, 0, 16, 16)), [14, BLACK, WHITE, 1, 0x10, 0x10])

    def test_colors_not_points_are_compared(self):
        # w and v are the same point in this form, but other colors.
        white = ["w" * 16] * 16
        almost = ["v" * 16] * 16
        self.assertEqual(shown(beside(white, almost), 5), [2, WHITE, 2, WHITE])
        self.assertEqual(shown(beside(tile("w"), tile("v"), tile("w..v")), 5), [
            14, BLACK, WHITE, 1, 0, 0, 12, WHITE, 1, 0, 0, 24, 2, WHITE, 0, 0, WHITE, 0x30, 0])
        self.assertEqual(shown(["w" * 15 + "v"], 5), [14, WHITE, WHITE, 1, 0xF0, 0])

    def test_points_of_other_sizes(self):
        one = tile(".rr")
        many = tile(".rg")
        self.assertEqual(shown(beside(one, many), 5, HIGH), [
            14, 0, 0, 0xF8, 0, 1, 0x10, 0x10, 24, 2, 0xF8, 0, 0x10, 0, 0x07, 0xE0, 0x20, 0])
        self.assertEqual(shown(beside(one, many), 5, LOW), [
            14, 0, 0, 0, 0xF8, 1, 0x10, 0x10, 24, 2, 0, 0xF8, 0x10, 0, 0xE0, 0x07, 0x20, 0])
        self.assertEqual(shown(beside(one, many), 5, WIDE), [
            14, 0, 0, 0, 0, 0, 255, 0, 0, 1, 0x10, 0x10, 24, 2, 0, 255, 0, 0, 0x10, 0, 0, 0, 255, 0, 0x20, 0])
        self.assertEqual(shown(beside(one, many), 5, NARROW), [
            14, 0, 0, 0, 0, 0, 0, 255, 0, 1, 0x10, 0x10, 24, 2, 0, 0, 255, 0, 0x10, 0, 0, 255, 0, 0, 0x20, 0])


class PointsInsteadTest(unittest.TestCase):
    """Where a byte 1 and the points stand."""

    def test_as_many_bytes_or_more(self):
        # A first byte, ground, color, how many, one run: 6 bytes; five points and a byte are as many.
        self.assertEqual(shown(["..w."], 5), [1, BLACK, BLACK, WHITE, BLACK])
        self.assertEqual(shown(["..w.."], 5), [1, BLACK, BLACK, WHITE, BLACK, BLACK])
        self.assertEqual(shown(["..w..."], 5), [14, BLACK, WHITE, 1, 0x20, 0x00])

    def test_as_many_bytes_with_several_colors(self):
        # A first byte, ground, how many, two runs of 3: 9 bytes; eight points and a byte are as many.
        self.assertEqual(shown(["w...r..."], 5), [1, WHITE, 0, 0, 0, RED, 0, 0, 0])
        self.assertEqual(shown(["w...r...."], 5), [26, BLACK, 2, WHITE, 0x00, 0, RED, 0x40, 0])

    def test_other_sizes(self):
        # At 16 bits: 1 + 2 + 2 + 1 + 2 = 8 bytes against 1 + 2 n; at 32 bits: 12 against 1 + 4 n.
        self.assertEqual(shown([".w."], 5, HIGH), [1, 0, 0, 255, 255, 0, 0])
        self.assertEqual(shown([".w.."], 5, HIGH), [14, 0, 0, 255, 255, 1, 0x10, 0])
        self.assertEqual(shown([".w"], 5, WIDE), [1, 0, 0, 0, 0, 0, 255, 255, 255])
        self.assertEqual(shown([".w."], 5, WIDE), [14, 0, 0, 0, 0, 0, 255, 255, 255, 1, 0x10, 0])

    def test_what_was_left_makes_it_shorter(self):
        # Beside a full tile that left both: 1 + 1 + 2 = 4 bytes against 1 + n.
        one = tile(".ww")
        self.assertEqual(shown(beside(one, tile("..w", w=3, h=16)), 5)[6:], [8, 1, 0x20, 0])
        full = tile(".ww", h=1)
        self.assertEqual(shown(beside(full, [".w."]), 5)[6:], [1, BLACK, WHITE, BLACK])
        self.assertEqual(shown(beside(full, [".w.."]), 5)[6:], [8, 1, 0x10, 0])

    def test_not_where_there_are_no_runs(self):
        # Two bytes are as many as one point and a byte.
        self.assertEqual(shown(["r"], 5), [2, RED])

    def test_leaves_neither(self):
        noise = [("wr" * 8), ("gb" * 8)] * 8
        points = [1] + ([WHITE, RED] * 8 + [GREEN, BLUE] * 8) * 8
        self.assertEqual(shown(beside(tile(".ww"), noise, tile(".ww")), 5),
                         [14, BLACK, WHITE, 1, 0x10, 0x10] + points + [14, BLACK, WHITE, 1, 0x10, 0x10])
        self.assertEqual(shown(beside(tile(".ww"), noise, tile(), tile(".ww")), 5),
                         [14, BLACK, WHITE, 1, 0x10, 0x10] + points + [2, BLACK, 12, WHITE, 1, 0x10, 0x10])

    def test_all_points_of_other_colors(self):
        screen = started(16, 16)
        sent_after(screen, ways_message(5))
        screen.put(0, 0, 16, 16, list(range(256)))
        expected = b"\1" + b"".join(color.to_bytes(4, "little") for color in range(256))
        self.assertEqual(told_points(screen, 0, 0, 16, 16), expected)

    def test_many_runs_of_one_color(self):
        # 120 runs: 4 + 240 bytes against 257; 127 runs: 4 + 254 bytes.
        def dotted(count):
            return ["".join("w" if y * 8 + x // 2 < count and x % 2 == 1 else "." for x in range(16)) for y in range(16)]
        self.assertEqual(shown(dotted(120), 5)[:4], [14, BLACK, WHITE, 120])
        self.assertEqual(len(shown(dotted(120), 5)), 244)
        self.assertEqual(shown(dotted(126), 5)[:4], [14, BLACK, WHITE, 126])
        self.assertEqual(len(shown(dotted(126), 5)), 256)
        self.assertEqual(shown(dotted(127), 5)[:3], [1, BLACK, WHITE])
        self.assertEqual(shown(dotted(128), 5, HIGH)[:6], [14, 0, 0, 255, 255, 128])


class Reader:
    """Reads a told rectangle's points back, as a viewer does."""

    def __init__(self, data, size, w, h):
        self.data = data
        self.size = size
        self.place = 0
        self.rows = [[None] * w for row in range(h)]

    def octets(self, size):
        self.place += size
        return self.data[self.place - size:self.place]

    def number(self, size):
        return int.from_bytes(self.octets(size), "big")

    def point(self):
        return self.octets(self.size)

    def paint(self, x, y, w, h, point):
        for row in self.rows[y:y + h]:
            row[x:x + w] = [point] * w

    def read(self, way):
        w, h = len(self.rows[0]), len(self.rows)
        if way == 0:
            self.read_plain(0, 0, w, h)
        elif way == 2:
            runs = self.number(4)
            self.paint(0, 0, w, h, self.point())
            for run in range(runs):
                point = self.point()
                x, y, wide, high = [self.number(2) for part in range(4)]
                self.paint(x, y, wide, high, point)
        else:
            self.ground = self.color = None
            for y in range(0, h, 16):
                for x in range(0, w, 16):
                    self.read_tile(x, y, min(16, w - x), min(16, h - y))
        return self.rows

    def read_plain(self, x, y, w, h):
        for down in range(h):
            for right in range(w):
                self.rows[y + down][x + right] = self.point()

    def read_tile(self, x, y, w, h):
        first = self.number(1)
        if first == 1:
            self.read_plain(x, y, w, h)
            self.ground = self.color = None
            return
        if first & 2:
            self.ground = self.point()
        if first & 4:
            self.color = self.point()
        self.paint(x, y, w, h, self.ground)
        for run in range(self.number(1) if first & 8 else 0):
            point = self.point() if first & 16 else self.color
            place, long = self.number(1), self.number(1)
            self.paint(x + place // 16, y + place % 16, long // 16 + 1, long % 16 + 1, point)
        if first & 16:
            self.color = None


class ReadBackTest(unittest.TestCase):
    def test_what_is_told_is_what_is_shown(self):
        chance = random.Random(5)
        for times in range(120):
            w, h = chance.randint(1, 50), chance.randint(1, 40)
            palette = [chance.choice(list(LETTERS.values())) for color in range(chance.randint(1, 4))]
            screen = started(w, h)
            way = chance.choice((2, 5))
            form = chance.choice((HIGH, LOW, WIDE, NARROW, SMALL))
            sent_after(screen, form_message(**form), ways_message(way))
            for fills in range(chance.randint(0, 30)):
                x, y = chance.randrange(w), chance.randrange(h)
                screen.fill(x, y, chance.randint(1, min(6, w - x)), chance.randint(1, min(3, h - y)),
                             chance.choice(palette))
            if times % 3 == 0:
                screen.put(0, 0, w, h // 2 + 1, [chance.choice(palette) for point in range(w * (h // 2 + 1))])
            x, y = chance.randrange(w), chance.randrange(h)
            wide, high = chance.randint(1, w - x), chance.randint(1, h - y)
            size = form.get("bits", 32) // 8
            reader = Reader(told_points(screen, x, y, wide, high), size, wide, high)
            rows = reader.read(way)
            self.assertEqual(reader.place, len(reader.data))
            sent_after(screen, ways_message(0))
            plain = Reader(told_points(screen, x, y, wide, high), size, wide, high)
            self.assertEqual(rows, plain.read(0))


if __name__ == "__main__":
    unittest.main()
