"""Our report: what we tell of the source, byte by byte."""

from latepackets.fields import VERSION, write_number
from latepackets.parts import RECEIVER_REPORT


# The block is empty where no source is believed.
def write_report(own, block):
    entries = 1 if block else 0
    body = write_number(own, 4) + block
    head = [64 * VERSION + entries, RECEIVER_REPORT]
    return head + write_number(len(body) // 4, 2) + body


def write_block(source, counting, hearing, now):
    return write_number(source, 4) + write_counts(counting) + write_heard(hearing, now)


def write_counts(counting):
    lost = write_number(counting.share_lost_since_told(), 1) + write_number(counting.how_many_missing(), 3)
    return lost + write_number(counting.greatest, 4) + write_number(counting.told_jitter(), 4)


def write_heard(hearing, now):
    return write_number(hearing.middle, 4) + write_number(hearing.time_since_report(now), 4)
