"""Way 0: points told one by one."""


def plain_points(rows, form):
    """The points, row by row."""
    octets = []
    for row in rows:
        for color in row:
            octets.extend(form.point(color))
    return octets
