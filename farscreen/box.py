"""A rectangle of a screen."""


class Box:
    """x, y is the upper left point; rows go downwards."""

    def __init__(self, x, y, w, h):
        self.x = x
        self.y = y
        self.w = w
        self.h = h

    def right(self):
        """The first column behind the rectangle."""
        return self.x + self.w

    def below(self):
        """The first row below the rectangle."""
        return self.y + self.h

    def lies_within(self, w, h):
        """Whether the rectangle is not empty and lies within a screen of w by h."""
        if self.x < 0 or self.y < 0 or self.w < 1 or self.h < 1:
            return False
        return self.right() <= w and self.below() <= h
