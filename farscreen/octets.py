"""Whole numbers and texts as bytes of the line, the highest byte first."""


def number_octets(number, size):
    """The number in so many bytes."""
    octets = []
    for place in range(size):
        octets.append((number >> (8 * (size - 1 - place))) & 255)
    return octets


def octets_number(octets):
    """The number that these bytes tell."""
    number = 0
    for octet in octets:
        number = number * 256 + octet
    return number


def text_octets(text):
    """The bytes of a text of plain signs."""
    return [ord(sign) for sign in text]
