"""One screen and the line on which it is shown: what each call does."""

from farscreen.box import Box
from farscreen.canvas import Canvas
from farscreen.line import Line
from farscreen.steps import bytes_come

DONE = 0
OUT_OF_RANGE = -1
NOTHING_THERE = -2
TOO_LONG = -6
MOST_W = 640
MOST_H = 480
COLORS = 16777216
MOST_OUTPUT = 2097152
MOST_EVENT = 4096


class Session:
    """Each call answers a number, or a list of them; one below 0 is a refusal, and nothing has happened."""

    def __init__(self):
        self.canvas = None
        self.line = None

    def begin(self, w, h, name):
        """A new screen, and a line at its beginning."""
        if not Box(0, 0, w, h).lies_within(MOST_W, MOST_H):
            return OUT_OF_RANGE
        self.canvas = Canvas(w, h)
        self.line = Line(self.canvas, name)
        return DONE

    def fill(self, x, y, w, h, color):
        """A rectangle becomes of one color."""
        box = Box(x, y, w, h)
        if not self.canvas.holds(box):
            return OUT_OF_RANGE
        self.canvas.fill(box, color % COLORS)
        self.line.see_to_asked()
        return DONE

    def put(self, x, y, w, h, colors):
        """A rectangle gets these colors, row by row."""
        box = Box(x, y, w, h)
        if not self.canvas.holds(box):
            return OUT_OF_RANGE
        self.canvas.put(box, [color % COLORS for color in colors])
        self.line.see_to_asked()
        return DONE

    def come(self, octets):
        """Bytes come on the line; answers how far it is."""
        bytes_come(self.line, octets)
        return self.line.step

    def output(self, most):
        """Bytes that wait to be sent, with how many they are before them."""
        if most < 0 or most > MOST_OUTPUT:
            return [OUT_OF_RANGE]
        octets = self.line.give_out(most)
        return [len(octets)] + octets

    def event(self, most):
        """What was handed on first: how many bytes, these, and its four numbers."""
        if most < 0 or most > MOST_EVENT:
            return [OUT_OF_RANGE]
        first = self.line.first_event()
        if first is None:
            return [NOTHING_THERE]
        text = first[1]
        if len(text) > most:
            return [TOO_LONG]
        self.line.drop_event()
        return [len(text)] + text + list(first[0])

    def told(self):
        """How far the line is, how much waits, how many are handed on, how many points have changed."""
        line = self.line
        return [DONE, line.step, line.outbox.held(), len(line.events), self.canvas.changed_points()]
