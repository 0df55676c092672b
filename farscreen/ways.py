"""What is sent to tell a rectangle, in each way."""

from farscreen.octets import number_octets
from farscreen.plain import plain_points
from farscreen.stretches import all_stretches, ground_of, runs_upon
from farscreen.tiles import tiled_points

BY_POINTS = 0
BY_RUNS = 2
BY_TILES = 5
WAYS = (0, 2, 5)


def update_octets(canvas, box, way, form):
    """The whole message that tells a rectangle."""
    octets = [0, 0] + number_octets(1, 2) + box_octets(box) + number_octets(way, 4)
    octets.extend(points_in_way(canvas.colors_within(box), way, form))
    return octets


def box_octets(box):
    """The four numbers of a rectangle."""
    octets = []
    for number in (box.x, box.y, box.w, box.h):
        octets.extend(number_octets(number, 2))
    return octets


def points_in_way(rows, way, form):
    """The points of a rectangle, told in this way."""
    if way == BY_RUNS:
        return points_by_runs(rows, form)
    if way == BY_TILES:
        return tiled_points(rows, form)
    return plain_points(rows, form)


def points_by_runs(rows, form):
    """Way 2: the ground, and the runs upon it."""
    stretches = all_stretches(rows)
    ground = ground_of(stretches)
    runs = runs_upon(ground, stretches)
    octets = number_octets(len(runs), 4) + form.point(ground)
    for color, x, y, length in runs:
        octets.extend(form.point(color))
        for number in (x, y, length, 1):
            octets.extend(number_octets(number, 2))
    return octets
