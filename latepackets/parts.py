"""Parts: what others report, one part behind another, or that it isn't right."""

from latepackets.fields import MOST_BYTES, has_padding, has_version, padding_length, read_number

SENDER_REPORT = 200
RECEIVER_REPORT = 201
GOODBYE = 203

# For each kind: how many bytes it has at least, and how many more for each that it counts.
LEAST_LENGTHS = {200: (28, 24), 201: (8, 24), 202: (8, 0), 203: (4, 4), 204: (8, 0)}
LEAST_LENGTH = 8
ENTRIES = 31


class Part:
    def __init__(self, octets):
        self.octets = octets
        self.kind = octets[1]
        self.entries = octets[0] & ENTRIES

    def is_sender_report_of(self, source):
        return self.kind == SENDER_REPORT and read_number(self.octets, 4, 4) == source

    # Of the sender's time only the middle is ever sent back.
    def middle_of_time(self):
        return read_number(self.octets, 10, 4)

    def is_goodbye_of(self, source):
        return self.kind == GOODBYE and source in self.leaving()

    def leaving(self):
        return [read_number(self.octets, 4 + 4 * place, 4) for place in range(self.entries)]

    def is_right(self):
        if not has_version(self.octets) or self.kind not in LEAST_LENGTHS:
            return False
        return padding_fits(self.octets) and self.is_long_enough()

    def is_long_enough(self):
        least = LEAST_LENGTHS[self.kind]
        return len(self.octets) - padding_length(self.octets) >= least[0] + least[1] * self.entries


def padding_fits(octets):
    if not has_padding(octets):
        return True
    padding = padding_length(octets)
    return padding != 0 and padding % 4 == 0 and padding <= len(octets) - LEAST_LENGTH


# None where no whole part begins there.
def cut_part(octets, start):
    if len(octets) - start < LEAST_LENGTH:
        return None
    length = 4 + 4 * read_number(octets, start + 2, 2)
    end = start + length
    if length < LEAST_LENGTH or end > len(octets):
        return None
    return Part(octets[start:end])


def begins_rightly(parts):
    if len(parts) == 0:
        return False
    return parts[0].kind == SENDER_REPORT or parts[0].kind == RECEIVER_REPORT


# Padding fills up all the parts together, so only the last has it, and never one that is the first too.
def is_padded_rightly(parts):
    unpadded = parts[:1] + parts[:-1]
    return not any([has_padding(part.octets) for part in unpadded])


# None where the bytes aren't parts that are right.
def read_parts(octets):
    if len(octets) > MOST_BYTES:
        return None
    parts = []
    start = 0
    while start < len(octets):
        part = cut_part(octets, start)
        if part is None or not part.is_right():
            return None
        parts.append(part)
        start += len(part.octets)
    if begins_rightly(parts) and is_padded_rightly(parts):
        return parts
    return None
