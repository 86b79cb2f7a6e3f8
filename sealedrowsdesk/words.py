"""Whole numbers as bytes, the highest byte first, and back."""


def number_of(data):
    """The whole number that the bytes are."""
    number = 0
    for byte in data:
        number = (number << 8) | byte
    return number


def bytes_of(number, count):
    """A whole number's so many lowest bytes."""
    return [(number >> (8 * place)) & 255 for place in range(count - 1, -1, -1)]
