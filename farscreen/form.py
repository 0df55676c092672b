"""The form in which a viewer wants points to be told."""

from farscreen.octets import octets_number

FIRST_FORM = (32, 24, 0, 1, 0, 255, 0, 255, 0, 255, 16, 8, 0, 0, 0, 0)


class Form:
    """What the sixteen bytes of a form tell."""

    def __init__(self, octets):
        self.bits = octets[0]
        self.depth = octets[1]
        self.highest_first = octets[2]
        self.true_color = octets[3]
        self.greatest = [octets_number(octets[place:place + 2]) for place in (4, 6, 8)]
        self.shifts = list(octets[10:13])
        self.known = {}

    def is_right(self):
        """Whether all its values are ones that the line allows."""
        if self.bits not in (8, 16, 32) or self.depth > self.bits:
            return False
        if self.highest_first not in (0, 1) or self.true_color != 1:
            return False
        for greatest in self.greatest:
            if not is_all_ones(greatest):
                return False
        return self.parts_are_apart()

    def parts_are_apart(self):
        """Whether red, green and blue share no bit and lie within the point's."""
        taken = 0
        for greatest, shift in zip(self.greatest, self.shifts):
            part = greatest << shift
            if part & taken != 0:
                return False
            taken = taken | part
        return taken < 1 << self.bits

    def point(self, color):
        """The bytes of a point of this color."""
        if color not in self.known:
            self.known[color] = self.new_point(color)
        return self.known[color]

    def new_point(self, color):
        """The bytes of a point, worked out."""
        parts = (color >> 16, (color >> 8) & 255, color & 255)
        number = 0
        for part, greatest, shift in zip(parts, self.greatest, self.shifts):
            number += ((part * greatest + 127) // 255) << shift
        octets = [(number >> place) & 255 for place in range(0, self.bits, 8)]
        if self.highest_first == 1:
            octets.reverse()
        return octets


def is_all_ones(number):
    """Whether a number is one less than 2, 4, 8 and so on."""
    return number > 0 and number & (number + 1) == 0
