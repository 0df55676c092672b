"""The colors of a screen, and which of its points have changed."""

from farscreen.box import Box

CHANGED = "1"
TOLD = "0"


class Canvas:
    """Rows of colors, and for each row a text of marks, one sign a point.

    The marks are texts because whole rows of them are searched after every message.
    """

    def __init__(self, w, h):
        self.w = w
        self.h = h
        self.rows = [[0] * w for y in range(h)]
        self.marks = [CHANGED * w for y in range(h)]

    def holds(self, box):
        """Whether the rectangle is not empty and lies within the screen."""
        return box.lies_within(self.w, self.h)

    def fill(self, box, color):
        """Give all points of the rectangle this color."""
        colors = [color] * box.w
        for y in range(box.y, box.below()):
            self.put_row(box.x, y, colors)

    def put(self, box, colors):
        """Give the points of the rectangle these colors, row by row."""
        for down in range(box.h):
            self.put_row(box.x, box.y + down, colors[down * box.w:(down + 1) * box.w])

    def put_row(self, x, y, colors):
        """Give some points of one row these colors; mark those that were of another."""
        end = x + len(colors)
        row = self.rows[y]
        marks = self.marks[y]
        # Where all points are marked already there's nothing to compare.
        if marks.find(TOLD, x, end) >= 0:
            marked = marked_anew(marks[x:end], row[x:end], colors)
            self.marks[y] = marks[:x] + marked + marks[end:]
        self.rows[y] = row[:x] + colors + row[end:]

    def changed_within(self, box):
        """The least rectangle that holds all changed points of this one; None if there's none."""
        left = box.right()
        right = -1
        changed_rows = []
        for y in range(box.y, box.below()):
            first = self.marks[y].find(CHANGED, box.x, box.right())
            if first >= 0:
                left = min(left, first)
                right = max(right, self.marks[y].rfind(CHANGED, box.x, box.right()))
                changed_rows.append(y)
        if not changed_rows:
            return None
        top = changed_rows[0]
        return Box(left, top, right + 1 - left, changed_rows[-1] + 1 - top)

    def changed_points(self):
        """How many points have changed."""
        return sum([marks.count(CHANGED) for marks in self.marks])

    def settle(self, box):
        """Take the points of the rectangle as told: they haven't changed."""
        for y in range(box.y, box.below()):
            marks = self.marks[y]
            self.marks[y] = marks[:box.x] + TOLD * box.w + marks[box.right():]

    def colors_within(self, box):
        """The rows of colors of the rectangle."""
        return [row[box.x:box.right()] for row in self.rows[box.y:box.below()]]


def marked_anew(marks, before, after):
    """The marks of some points whose colors become other ones."""
    if before == after:
        return marks
    return "".join([mark if old == new else CHANGED for mark, old, new in zip(marks, before, after)])
