"""What comes on the line, step by step."""

from farscreen.form import FIRST_FORM
from farscreen.line import STEP_CHOICE, STEP_CLOSED, STEP_HELLO, STEP_MESSAGES, STEP_SHARE
from farscreen.messages import HEAD, message_size, take_message
from farscreen.octets import number_octets, text_octets

HELLO_SIZE = 12
NO_PASSWORD = 1
REASON = "unknown"


def bytes_come(line, octets):
    """Look at the bytes that come, as far as they make up whole steps and messages."""
    if line.step == STEP_CLOSED:
        return
    line.inbox.add(octets)
    while line.step != STEP_CLOSED and line.inbox.held() >= wanted(line):
        take_part(line, line.inbox.take(wanted(line)))


def wanted(line):
    """How many bytes must be there before the line goes on."""
    if line.step == STEP_HELLO:
        return HELLO_SIZE
    if line.step == STEP_MESSAGES:
        return message_size(line.inbox.front(HEAD))
    return 1


def take_part(line, octets):
    """Do one step, or one message."""
    if line.step == STEP_HELLO:
        take_hello(line, octets)
    elif line.step == STEP_CHOICE:
        take_choice(line, octets[0])
    elif line.step == STEP_SHARE:
        take_share(line)
    else:
        take_message(line, octets)


def take_hello(line, octets):
    """Step 1: the viewer tells which version it speaks."""
    line.version = version_of(octets)
    if line.version == 0:
        line.close()
    elif line.version == 3:
        line.send(number_octets(NO_PASSWORD, 4))
        line.step = STEP_SHARE
    else:
        line.send([1, NO_PASSWORD])
        line.step = STEP_CHOICE


def version_of(octets):
    """The last digit of the version; 0 if it isn't one that's known."""
    for version in (3, 7, 8):
        if octets == text_octets(f"RFB 003.00{version}\n"):
            return version
    return 0


def take_choice(line, octet):
    """Step 2: the viewer chooses how to be let in."""
    if octet == NO_PASSWORD:
        if line.version == 8:
            line.send(number_octets(0, 4))
        line.step = STEP_SHARE
        return
    if line.version == 8:
        line.send(number_octets(1, 4) + number_octets(len(REASON), 4) + text_octets(REASON))
    line.close()


def take_share(line):
    """Step 3: whatever the byte is, the screen is shown."""
    line.send(number_octets(line.canvas.w, 2) + number_octets(line.canvas.h, 2))
    line.send(list(FIRST_FORM))
    line.send(number_octets(len(line.name), 4) + line.name)
    line.step = STEP_MESSAGES
