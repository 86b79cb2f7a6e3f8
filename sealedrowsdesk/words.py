"""Whole numbers as bytes and back: the highest byte first, or the lowest."""


def number_of(data):
    """The whole number that the bytes are, the highest first."""
    number = 0
    for byte in data:
        number = (number << 8) | byte
    return number


def bytes_of(number, count):
    """So many bytes of a whole number, the highest first."""
    return [(number >> (8 * place)) & 255 for place in range(count - 1, -1, -1)]


def low_first(number, count):
    """So many bytes of a whole number, the lowest first."""
    return [(number >> (8 * place)) & 255 for place in range(count)]


def number_of_low_first(data):
    """The whole number that the bytes are, the lowest first."""
    return number_of(data[::-1])
