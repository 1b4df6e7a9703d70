"""Fields: what packets and reports have in common in how their bytes are read and written."""

MOST_BYTES = 65535
VERSION = 2
PADDING = 32
# As many numbers as four bytes can tell apart.
FOUR_BYTES = 4294967296


def read_number(octets, start, length):
    number = 0
    for octet in octets[start:start + length]:
        number = number * 256 + octet
    return number


# What doesn't fit is cut off above, so a number below 0 comes out as one with a sign.
def write_number(number, length):
    octets = []
    rest = number
    for place in range(length):
        octets.insert(0, rest % 256)
        rest = rest // 256
    return octets


def has_version(octets):
    return octets[0] // 64 == VERSION


def has_padding(octets):
    return octets[0] & PADDING != 0


def padding_length(octets):
    if has_padding(octets):
        return octets[-1]
    return 0
