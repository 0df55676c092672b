"""Bytes in the order in which they came."""


class Pipe:
    """Bytes are put in at the end and taken out at the front."""

    def __init__(self):
        self.octets = []
        self.place = 0

    def add(self, octets):
        """Put bytes behind those that are there."""
        # What was taken is dropped only here: so taking a little out of much is quick.
        self.octets = self.octets[self.place:] + octets
        self.place = 0

    def held(self):
        """How many bytes there are."""
        return len(self.octets) - self.place

    def front(self, size):
        """The first bytes, so many or as many as there are; they stay."""
        return self.octets[self.place:self.place + size]

    def take(self, size):
        """The first bytes, so many or as many as there are; they're gone."""
        octets = self.front(size)
        self.place += len(octets)
        return octets
