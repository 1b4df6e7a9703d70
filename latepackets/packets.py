"""Packets: what the bytes that have come say, or that they are none."""

from latepackets.fields import MOST_BYTES, has_padding, has_version, padding_length, read_number

HEAD_LENGTH = 12
EXTENSION = 16
OTHER_SOURCES = 15
MARK = 128


class Packet:
    def __init__(self, octets, carried):
        self.mark = octets[1] // MARK
        self.kind = octets[1] % MARK
        self.number = read_number(octets, 2, 2)
        self.stamp = read_number(octets, 4, 4)
        self.source = read_number(octets, 8, 4)
        self.carried = carried


# Where what is carried begins. It may lie behind the last byte: then the packet is cut short.
def carried_start(octets):
    start = HEAD_LENGTH + 4 * (octets[0] & OTHER_SOURCES)
    if octets[0] & EXTENSION == 0:
        return start
    words = read_number(octets, start + 2, 2)
    return start + 4 + 4 * words


# None where the bytes are no packet.
def read_packet(octets):
    if len(octets) < HEAD_LENGTH or len(octets) > MOST_BYTES:
        return None
    if not has_version(octets):
        return None
    padding = padding_length(octets)
    # Padding counts its own last byte, so there is none of length 0.
    if has_padding(octets) and padding == 0:
        return None
    start = carried_start(octets)
    end = len(octets) - padding
    if start > end:
        return None
    return Packet(octets, octets[start:end])
