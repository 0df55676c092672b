"""One screen and the line on which it is shown: what each call does."""

from farscreen.box import Box
from farscreen.canvas import Canvas
from farscreen.line import Line
from farscreen.steps import bytes_come

DONE = 0
OUT_OF_RANGE = -1
MOST_W = 640
MOST_H = 480
COLORS = 16777216


class Session:
    """Each call answers a number; one below 0 is a refusal, and nothing has happened."""

    def __init__(self):
        self.canvas = None
        self.line = None

    def begin(self, w, h, name):
        """A new screen, and a line at its beginning."""
        if not Box(0, 0, w, h).lies_within(MOST_W, MOST_H):
            return OUT_OF_RANGE
        self.canvas = Canvas(w, h)
        self.line = Line(self.canvas, name)
        return DONE

    def fill(self, x, y, w, h, color):
        """A rectangle becomes of one color."""
        box = Box(x, y, w, h)
        if not self.canvas.holds(box):
            return OUT_OF_RANGE
        self.canvas.fill(box, color % COLORS)
        self.line.see_to_asked()
        return DONE

    def put(self, x, y, w, h, colors):
        """A rectangle gets these colors, row by row."""
        box = Box(x, y, w, h)
        if not self.canvas.holds(box):
            return OUT_OF_RANGE
        self.canvas.put(box, [color % COLORS for color in colors])
        self.line.see_to_asked()
        return DONE

    def come(self, octets):
        """Bytes come on the line; answers how far it is."""
        bytes_come(self.line, octets)
        return self.line.step
