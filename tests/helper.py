"""What the tests share: calls and messages in their written form, and sessions to try them on."""

from farscreen.session import Session

HELLO = b"RFB 003.008\n"
VERSIONS = {3: b"RFB 003.003\n", 7: b"RFB 003.007\n", 8: b"RFB 003.008\n"}
FIRST_FORM = bytes([32, 24, 0, 1, 0, 255, 0, 255, 0, 255, 16, 8, 0, 0, 0, 0])


def u16(number):
    return number.to_bytes(2, "big")


def u32(number):
    return number.to_bytes(4, "big")


# Calls, as they stand in the list that is handed in.

def begin(w, h, name=b""):
    return [1, w, h, len(name), *name]


def fill(x, y, w, h, color):
    return [2, x, y, w, h, color]


def put(x, y, w, h, colors=()):
    return [3, x, y, w, h, len(colors), *colors]


def came(data):
    return [4, len(data), *data]


def ones(*numbers):
    """The answers of calls that answer one number each."""
    return [part for number in numbers for part in (1, number)]


# Messages of step 4.

def form_message(bits=32, depth=24, order=0, true=1, greatest=(255, 255, 255), shifts=(16, 8, 0),
                 before=b"\0\0\0", behind=b"\0\0\0"):
    parts = b"".join(u16(number) for number in greatest)
    return b"\0" + before + bytes([bits, depth, order, true]) + parts + bytes(shifts) + behind


SMALL = {"bits": 8, "depth": 8, "greatest": (7, 7, 3), "shifts": (5, 2, 0)}


def ways_message(*ways, between=0):
    return bytes([2, between]) + u16(len(ways)) + b"".join(u32(way) for way in ways)


def ask_message(only_changed, x, y, w, h):
    return bytes([3, only_changed]) + u16(x) + u16(y) + u16(w) + u16(h)


def key_message(down, key, between=b"\0\0"):
    return bytes([4, down]) + between + u32(key)


def pointer_message(buttons, x, y):
    return bytes([5, buttons]) + u16(x) + u16(y)


def text_message(text, before=b"\0\0\0"):
    return b"\6" + before + u32(len(text)) + text


# Sessions.

def begun(w, h, name=b""):
    session = Session()
    session.begin(w, h, list(name))
    return session


def come(session, data):
    return session.come(list(data))


def drained(session):
    """What waits to be sent; it's gone, and what's asked for is seen to."""
    taken = bytes(session.line.waiting)
    session.line.waiting.clear()
    session.line.see_to_asked()
    return taken


def started(w, h, version=8, name=b""):
    """A session in step 4, with nothing that waits."""
    session = begun(w, h, name)
    come(session, VERSIONS[version] + (b"\1" if version == 3 else b"\1\1"))
    drained(session)
    return session


def told(session, *messages):
    """What is sent after these messages."""
    come(session, b"".join(messages))
    return drained(session)


def told_points(session, x, y, w, h):
    """The bytes behind the head of a rectangle that's asked for."""
    return told(session, ask_message(0, x, y, w, h))[16:]


def colors(session):
    """The colors on the screen, row by row."""
    return [list(row) for row in session.canvas.rows]


def changed(session):
    """The points that have changed."""
    rows = session.canvas.marks
    return {(x, y) for y, row in enumerate(rows) for x, mark in enumerate(row) if mark == "1"}


def kept(session):
    """All that a session keeps, for holding it against another one."""
    line = session.line
    box = None
    if line.asked is not None:
        box = (line.only_changed, line.asked.x, line.asked.y, line.asked.w, line.asked.h)
    form = (line.form.bits, line.form.highest_first, line.form.greatest, line.form.shifts)
    waiting = bytes(line.waiting)
    return (line.step, waiting, list(line.events), line.way, form, box, colors(session), changed(session))
