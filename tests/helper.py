"""What the tests share: calls and messages in their written form, and screens to try them on."""

from farscreen.screen import answers

LEAST_NUMBER = -2147483648
MOST_NUMBER = 2147483647
MOST_OUTPUT = 2097152
MOST_EVENT = 4096
HELLO = b"RFB 003.008\n"
VERSIONS = {3: b"RFB 003.003\n", 7: b"RFB 003.007\n", 8: b"RFB 003.008\n"}
FIRST_FORM = bytes([32, 24, 0, 1, 0, 255, 0, 255, 0, 255, 16, 8, 0, 0, 0, 0])


def u16(number):
    return number.to_bytes(2, "big")


def u32(number):
    return number.to_bytes(4, "big")


# Calls, as they stand in the list that is handed in.

def begin(w, h, name=b""):
    return [1, w, h, len(name), *name]


def fill(x, y, w, h, color):
    return [2, x, y, w, h, color]


def put(x, y, w, h, colors=()):
    return [3, x, y, w, h, len(colors), *colors]


def came(data):
    return [4, len(data), *data]


def output(most=MOST_OUTPUT):
    return [5, most]


def event(most=MOST_EVENT):
    return [6, most]


def told():
    return [7]


# Answers.

def ones(*numbers):
    """The answers of calls that answer one number each."""
    return [part for number in numbers for part in (1, number)]


def parted(answered):
    """The answers, a list for each call."""
    parts = []
    place = 0
    while place < len(answered):
        size = answered[place]
        parts.append(answered[place + 1:place + 1 + size])
        place += 1 + size
    if place != len(answered):
        raise ValueError("the last answer is cut off")
    return parts


def sent(data):
    """What output answers when it gives out these bytes."""
    return [len(data), *data]


def key_event(down, key):
    return [0, 1, down, key, 0]


def pointer_event(buttons, x, y):
    return [0, 2, buttons, x, y]


def text_event(text):
    return [len(text), *text, 3, len(text), 0, 0]


# Messages of step 4.

def form_message(bits=32, depth=24, order=0, true=1, greatest=(255, 255, 255), shifts=(16, 8, 0),
                 before=b"\0\0\0", behind=b"\0\0\0"):
    parts = b"".join(u16(number) for number in greatest)
    return b"\0" + before + bytes([bits, depth, order, true]) + parts + bytes(shifts) + behind


SMALL = {"bits": 8, "depth": 8, "greatest": (7, 7, 3), "shifts": (5, 2, 0)}


def ways_message(*ways, between=0):
    return bytes([2, between]) + u16(len(ways)) + b"".join(u32(way) for way in ways)


def ask_message(only_changed, x, y, w, h):
    return bytes([3, only_changed]) + u16(x) + u16(y) + u16(w) + u16(h)


def key_message(down, key, between=b"\0\0"):
    return bytes([4, down]) + between + u32(key)


def pointer_message(buttons, x, y):
    return bytes([5, buttons]) + u16(x) + u16(y)


def text_message(text, before=b"\0\0\0"):
    return b"\6" + before + u32(len(text)) + text


# Screens.

class Screen:
    """The calls on one screen; each new one is answered as the last of the whole list."""

    def __init__(self, calls):
        self.calls = list(calls)

    def call(self, numbers):
        self.calls += numbers
        return parted(answers(self.calls))[-1]

    def one(self, numbers):
        """The answer of a call that answers one number."""
        answered = self.call(numbers)
        if len(answered) != 1:
            raise ValueError(f"{answered} is not one number")
        return answered[0]

    def begin(self, w, h, name=b""):
        return self.one(begin(w, h, name))

    def fill(self, x, y, w, h, color):
        return self.one(fill(x, y, w, h, color))

    def put(self, x, y, w, h, given=()):
        return self.one(put(x, y, w, h, given))

    def come(self, data):
        return self.one(came(data))

    def output(self, most=MOST_OUTPUT):
        """The bytes that are given out."""
        answered = self.call(output(most))
        if answered[0] != len(answered) - 1:
            raise ValueError(f"{answered} doesn't tell how many bytes there are")
        return bytes(answered[1:])

    def event(self, most=MOST_EVENT):
        return self.call(event(most))

    def told(self):
        """The four numbers that are told."""
        answered = self.call(told())
        if len(answered) != 5 or answered[0] != 0:
            raise ValueError(f"{answered} is not 0 and four numbers")
        return tuple(answered[1:])

    def copy(self):
        return Screen(self.calls)

    def answered_behind(self, calls):
        """What further calls would answer; they aren't made."""
        made = len(parted(answers(self.calls)))
        return parted(answers(self.calls + calls))[made:]


def begun(w, h, name=b""):
    return Screen(begin(w, h, name))


def start_bytes(version=8):
    """What comes in the first three steps."""
    return VERSIONS[version] + (b"\1" if version == 3 else b"\1\1")


def started(w, h, version=8, name=b""):
    """A screen in step 4, with nothing that waits."""
    return Screen(begin(w, h, name) + came(start_bytes(version)) + output())


def sent_after(screen, *messages):
    """What is given out after these messages."""
    screen.come(b"".join(messages))
    return screen.output()


def told_points(screen, x, y, w, h):
    """The bytes behind the head of a rectangle that's asked for."""
    return sent_after(screen, ask_message(0, x, y, w, h))[16:]


def events(screen):
    """What is handed on, one after another."""
    looked = screen.copy()
    given = []
    while looked.told()[2] > 0:
        given.append(looked.event())
    return given


def way_of(screen):
    """The way in which a rectangle is told; nothing waits."""
    return int.from_bytes(sent_after(screen.copy(), ask_message(0, 0, 0, 1, 1))[12:16], "big")


def colors(screen, w, h):
    """The colors on a screen of this size, row by row, as they're told in the first form."""
    looked = screen.copy()
    if looked.told()[0] == 0:
        looked.come(start_bytes())
    looked.come(form_message() + ways_message(0) + ask_message(0, 0, 0, w, h))
    # What waited before is given out first; the last bytes are those of the whole screen.
    points = [data for data in [looked.output() for times in range(3)] if data][-1][16:]
    numbers = [int.from_bytes(points[place:place + 4], "little") for place in range(0, len(points), 4)]
    return [numbers[place:place + w] for place in range(0, w * h, w)]


def changed(screen, w, h):
    """The points of a screen of this size, in step 4, that have changed: each is one fewer when it's told."""
    before = screen.told()[3]
    points = set()
    for y in range(h):
        for x in range(w):
            looked = screen.copy()
            looked.come(ask_message(1, x, y, 1, 1))
            looked.output()
            if looked.told()[3] < before:
                points.add((x, y))
    return points


def seen(screen):
    """What can be seen of a screen without a further byte that comes."""
    calls = told() + event(0) + event() + event() + event() + told() + output(1) + output() + told() + output()
    calls += fill(0, 0, 1, 1, 0x123456) + told() + output() + put(0, 0, 1, 1, [0x654321]) + output() + told()
    return screen.answered_behind(calls)


def seen_by_viewer(screen):
    """What a viewer sees who asks for the upper left point, first what has changed of it, then all."""
    calls = output() + output() + came(ask_message(1, 0, 0, 1, 1)) + output() + fill(0, 0, 1, 1, 0xFEDCBA)
    calls += output() + came(ask_message(0, 0, 0, 1, 1)) + output() + told()
    return screen.answered_behind(calls)
