"""The ground of some points, and the runs upon it.

A stretch is a tuple: its color, x and y of its first point, how long it is.
"""


def row_stretches(row, y):
    """The longest stretches of one color in a row."""
    # Most rows of a screen are plain, and counting is far quicker than walking.
    if row.count(row[0]) == len(row):
        return [(row[0], 0, y, len(row))]
    stretches = []
    start = 0
    for x, color in enumerate(row):
        if color != row[start]:
            stretches.append((row[start], start, y, x - start))
            start = x
    stretches.append((row[start], start, y, len(row) - start))
    return stretches


def all_stretches(rows):
    """The stretches of all rows, row by row."""
    stretches = []
    for y, row in enumerate(rows):
        stretches.extend(row_stretches(row, y))
    return stretches


def ground_of(stretches):
    """The commonest color; of several the one that comes first."""
    counts = {}
    for color, x, y, length in stretches:
        counts[color] = counts.get(color, 0) + length
    ground = stretches[0][0]
    for color, count in counts.items():
        if count > counts[ground]:
            ground = color
    return ground


def runs_upon(ground, stretches):
    """The stretches that aren't of the ground's color."""
    return [stretch for stretch in stretches if stretch[0] != ground]


def color_of_all(runs):
    """The one color that all runs have; None if there is no such one."""
    if not runs:
        return None
    for run in runs:
        if run[0] != runs[0][0]:
            return None
    return runs[0][0]
