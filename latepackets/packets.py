"""Packets: what the bytes that have come say, or that they are none."""

HEAD_LENGTH = 12
MOST_BYTES = 65535
VERSION = 2
PADDING = 32
EXTENSION = 16
OTHER_SOURCES = 15
MARK = 128


class Packet:
    def __init__(self, octets, carried):
        self.mark = octets[1] // MARK
        self.kind = octets[1] % MARK
        self.number = read_number(octets, 2, 2)
        self.stamp = read_number(octets, 4, 4)
        self.source = read_number(octets, 8, 4)
        self.carried = carried


def read_number(octets, start, length):
    number = 0
    for octet in octets[start:start + length]:
        number = number * 256 + octet
    return number


# Where what is carried begins. It may lie behind the last byte: then the packet is cut short.
def carried_start(octets):
    start = HEAD_LENGTH + 4 * (octets[0] & OTHER_SOURCES)
    if octets[0] & EXTENSION == 0:
        return start
    words = read_number(octets, start + 2, 2)
    return start + 4 + 4 * words


def padding_length(octets):
    if octets[0] & PADDING == 0:
        return 0
    return octets[-1]


# None where the bytes are no packet.
def read_packet(octets):
    if len(octets) < HEAD_LENGTH or len(octets) > MOST_BYTES:
        return None
    if octets[0] // 64 != VERSION:
        return None
    padding = padding_length(octets)
    # Padding counts its own last byte, so there is none of length 0.
    if octets[0] & PADDING != 0 and padding == 0:
        return None
    start = carried_start(octets)
    end = len(octets) - padding
    if start > end:
        return None
    return Packet(octets, octets[start:end])
