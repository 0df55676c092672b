"""The calls on one screen, handed in and answered as lists of whole numbers."""

from farscreen.session import Session

BEGIN_CALL = 1
FILL_CALL = 2
PUT_CALL = 3
INPUT_CALL = 4
OUTPUT_CALL = 5
EVENT_CALL = 6
TOLD_CALL = 7


class UnknownCall(ValueError):
    """A call's number is none of those that are known."""


class Reader:
    """Reads the list of calls from its beginning on; the list itself stays as it is."""

    def __init__(self, calls):
        self.calls = calls
        self.place = 0

    def is_done(self):
        """Whether all has been read."""
        return self.place >= len(self.calls)

    def number(self):
        """The next number."""
        self.place += 1
        return self.calls[self.place - 1]

    def numbers(self, size):
        """The next numbers, so many."""
        self.place += size
        return self.calls[self.place - size:self.place]

    def row(self):
        """The next row, which has its length before it."""
        return self.numbers(self.number())


def answers(calls):
    """What each call answers, each with how many numbers that are before it."""
    reader = Reader(calls)
    session = Session()
    answered = []
    while not reader.is_done():
        numbers = answer(session, reader)
        answered.append(len(numbers))
        answered.extend(numbers)
    return answered


def answer(session, reader):
    """Do the next call; the numbers that it answers."""
    call = reader.number()
    if call == BEGIN_CALL:
        sizes = reader.numbers(2)
        return [session.begin(sizes[0], sizes[1], reader.row())]
    if call == FILL_CALL:
        box = reader.numbers(4)
        return [session.fill(box[0], box[1], box[2], box[3], reader.number())]
    if call == PUT_CALL:
        box = reader.numbers(4)
        return [session.put(box[0], box[1], box[2], box[3], reader.row())]
    if call == INPUT_CALL:
        return [session.come(reader.row())]
    if call == OUTPUT_CALL:
        return session.output(reader.number())
    if call == EVENT_CALL:
        return session.event(reader.number())
    if call == TOLD_CALL:
        return session.told()
    raise UnknownCall(f"call {call!r} is not known")
