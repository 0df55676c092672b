"""The messages of step 4: how long each is, and what it does."""

from farscreen.box import Box
from farscreen.form import Form
from farscreen.octets import octets_number
from farscreen.ways import BY_POINTS, WAYS

SET_FORM = 0
SET_WAYS = 2
ASK = 3
KEY = 4
POINTER = 5
TEXT = 6
# By a message's first byte; for ways and texts these are the bytes that tell how many more there are.
SIZES = {0: 20, 2: 4, 3: 10, 4: 8, 5: 6, 6: 8}
HEAD = 8
MOST_TEXT = 4096

KEY_EVENT = 1
POINTER_EVENT = 2
TEXT_EVENT = 3


def message_size(head):
    """How many bytes must be there before the message is looked at.

    head holds its first eight bytes, or as many as there are. What closes the
    line early, an unknown first byte or a text too long, counts as a whole message.
    """
    if not head:
        return 1
    size = SIZES.get(head[0], 1)
    if len(head) < size:
        return size
    if head[0] == SET_WAYS:
        return size + 4 * octets_number(head[2:4])
    if head[0] == TEXT and not is_too_long(head):
        return size + text_length(head)
    return size


def text_length(message):
    """The length that a text's message tells."""
    return octets_number(message[4:8])


def is_too_long(message):
    """Whether a text's message tells a length that closes the line."""
    return text_length(message) > MOST_TEXT


def take_message(line, message):
    """Do what a whole message says; if it's wrong, close the line."""
    if follow(line, message):
        line.see_to_asked()
    else:
        line.close()


def follow(line, message):
    """Do what a whole message says; whether it was right."""
    if message[0] == SET_FORM:
        return take_form(line, message)
    if message[0] == SET_WAYS:
        return take_ways(line, message)
    if message[0] == ASK:
        return take_ask(line, message)
    if message[0] == KEY:
        return take_key(line, message)
    if message[0] == POINTER:
        return take_pointer(line, message)
    if message[0] == TEXT:
        return take_text(line, message)
    return False


def take_form(line, message):
    """Points are told in this form from now on."""
    form = Form(message[4:20])
    if not form.is_right():
        return False
    line.form = form
    return True


def take_ways(line, message):
    """The first way that's known is the way from now on."""
    line.way = BY_POINTS
    for place in range(4, len(message), 4):
        way = octets_number(message[place:place + 4])
        if way in WAYS:
            line.way = way
            break
    return True


def take_ask(line, message):
    """A rectangle is asked for."""
    numbers = [octets_number(message[place:place + 2]) for place in (2, 4, 6, 8)]
    box = Box(numbers[0], numbers[1], numbers[2], numbers[3])
    if message[1] not in (0, 1) or not line.canvas.holds(box):
        return False
    line.ask(message[1], box)
    return True


def take_key(line, message):
    """A key is handed on."""
    if message[1] not in (0, 1):
        return False
    line.hand_on((KEY_EVENT, message[1], octets_number(message[4:8]), 0), [])
    return True


def take_pointer(line, message):
    """A pointer is handed on."""
    x = octets_number(message[2:4])
    y = octets_number(message[4:6])
    line.hand_on((POINTER_EVENT, message[1], x, y), [])
    return True


def take_text(line, message):
    """A text is handed on."""
    if is_too_long(message):
        return False
    line.hand_on((TEXT_EVENT, text_length(message), 0, 0), message[HEAD:])
    return True
