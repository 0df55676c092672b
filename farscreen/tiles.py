"""Way 5: points told by tiles."""

from farscreen.plain import plain_points
from farscreen.stretches import all_stretches, color_of_all, ground_of, runs_upon

SIDE = 16
PLAIN = 1
WITH_GROUND = 2
WITH_COLOR = 4
WITH_RUNS = 8
MANY_COLORS = 16


class Left:
    """What the tile before left: its ground and the color of its runs, None for neither."""

    def __init__(self):
        self.ground = None
        self.color = None


def tiled_points(rows, form):
    """The points of a rectangle, tile by tile."""
    octets = []
    left = Left()
    for y in range(0, len(rows), SIDE):
        for x in range(0, len(rows[0]), SIDE):
            tile = [row[x:x + SIDE] for row in rows[y:y + SIDE]]
            octets.extend(tile_octets(tile, form, left))
    return octets


def tile_octets(tile, form, left):
    """One tile's bytes; what it leaves is kept in left."""
    stretches = all_stretches(tile)
    ground = ground_of(stretches)
    runs = runs_upon(ground, stretches)
    color = color_of_all(runs)
    octets = head_octets(ground, runs, color, form, left)
    if runs:
        octets.extend(runs_octets(runs, color, form))
        # More than 255 runs can't be: one of the 256 points at least is of the ground.
        plain = [PLAIN] + plain_points(tile, form)
        if len(octets) >= len(plain):
            left.ground = None
            left.color = None
            return plain
        left.color = color
    left.ground = ground
    return octets


def head_octets(ground, runs, color, form, left):
    """A tile's first byte, and the ground and the color, if they're not the ones left."""
    first = 0
    octets = []
    if ground != left.ground:
        first += WITH_GROUND
        octets.extend(form.point(ground))
    if runs:
        first += WITH_RUNS
        if color is None:
            first += MANY_COLORS
        elif color != left.color:
            first += WITH_COLOR
            octets.extend(form.point(color))
    return [first] + octets


def runs_octets(runs, color, form):
    """How many runs, and each of them; with its own point, if they're not all of one color."""
    octets = [len(runs)]
    for own, x, y, length in runs:
        if color is None:
            octets.extend(form.point(own))
        octets.append(16 * x + y)
        octets.append(16 * (length - 1))
    return octets
