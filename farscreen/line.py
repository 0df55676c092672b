"""The line to the viewer: how far it is, what came, what waits to be sent, what is handed on."""

from farscreen.form import FIRST_FORM, Form
from farscreen.octets import text_octets
from farscreen.pipe import Pipe
from farscreen.ways import BY_POINTS, update_octets

HELLO = "RFB 003.008\n"
MOST_EVENTS = 64

# The numbers that input answers.
STEP_HELLO = 0
STEP_CHOICE = 1
STEP_SHARE = 2
STEP_MESSAGES = 3
STEP_CLOSED = 4


class Line:
    """A line at its beginning, about this canvas."""

    def __init__(self, canvas, name):
        self.canvas = canvas
        self.name = name
        self.step = STEP_HELLO
        self.version = 0
        self.inbox = Pipe()
        self.outbox = Pipe()
        self.events = []
        self.form = Form(FIRST_FORM)
        self.way = BY_POINTS
        self.asked = None
        self.only_changed = 0
        self.send(text_octets(HELLO))

    def send(self, octets):
        """Put bytes behind those that wait to be sent."""
        self.outbox.add(octets)

    def give_out(self, most):
        """The first of the bytes that wait to be sent, so many at the most; then what's asked for is seen to."""
        octets = self.outbox.take(most)
        self.see_to_asked()
        return octets

    def close(self):
        """Nothing more is looked at or told; what waits is kept."""
        self.step = STEP_CLOSED
        self.inbox = Pipe()

    def hand_on(self, numbers, text):
        """Keep an event, its four numbers and its bytes, if there's room for it."""
        if len(self.events) < MOST_EVENTS:
            self.events.append((numbers, text))

    def first_event(self):
        """What was handed on first; None if there's nothing."""
        return self.events[0] if self.events else None

    def drop_event(self):
        """What was handed on first is gone."""
        self.events.pop(0)

    def ask(self, only_changed, box):
        """Ask for a rectangle; what was asked for before isn't any more."""
        self.only_changed = only_changed
        self.asked = box

    def see_to_asked(self):
        """Tell what's asked for, if that can be done now."""
        if self.step != STEP_MESSAGES or self.asked is None or self.outbox.held() > 0:
            return
        box = self.asked
        if self.only_changed == 1:
            box = self.canvas.changed_within(box)
        if box is not None:
            self.asked = None
            self.canvas.settle(box)
            self.send(update_octets(self.canvas, box, self.way, self.form))
