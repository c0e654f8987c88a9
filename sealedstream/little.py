"""Numbers in bytes, the lowest byte first."""


def number_of(row):
    number = 0
    for byte in reversed(row):
        number = number * 256 + byte
    return number


def bytes_of(number, size):
    return [(number >> (8 * place)) & 255 for place in range(size)]
