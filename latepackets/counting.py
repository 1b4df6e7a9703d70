"""Counting: whole numbers, how many have come, and how evenly, since numbers began."""

from latepackets.fields import FOUR_BYTES

NUMBERS = 65536
FAR_AHEAD = 3000
FAR_BEHIND = 65436
MOST_SHARE = 255
# What three bytes hold of a number with a sign.
LEAST_MISSING = -8388608
MOST_MISSING = 8388607


class Counting:
    # The packet with which numbers begin has nothing before it to be compared with: it only sets the way.
    def __init__(self, number, way):
        self.first = number
        self.greatest = number
        self.came = 1
        self.jitter = 0
        self.way = way
        # Of our last report; numbers that have just begun were told by none.
        self.told_expected = 0
        self.told_came = 0

    # None where the number lies too far from the greatest one to be believed.
    def whole_number(self, number):
        distance = (number - self.greatest) % NUMBERS
        if distance < FAR_AHEAD:
            return self.greatest + distance
        if distance > FAR_BEHIND:
            return self.greatest + distance - NUMBERS
        return None

    def add_packet(self, whole, way):
        self.greatest = max(self.greatest, whole)
        self.came += 1
        self.jitter = next_jitter(self.jitter, way_change(self.way, way))
        self.way = way

    def how_many_expected(self):
        return self.greatest - self.first + 1

    def how_many_missing(self):
        return held_missing(self.how_many_expected() - self.came)

    def share_lost_since_told(self):
        return share_lost(self.how_many_expected() - self.told_expected, self.came - self.told_came)

    def note_told(self):
        self.told_expected = self.how_many_expected()
        self.told_came = self.came

    def told_jitter(self):
        return self.jitter // 16


# Twice the same packet counts twice, so more may have come than were expected.
def share_lost(expected, came):
    if expected == 0 or came >= expected:
        return 0
    return min(MOST_SHARE, (expected - came) * 256 // expected)


def held_missing(missing):
    return max(LEAST_MISSING, min(MOST_MISSING, missing))


def number_behind(number):
    return (number + 1) % NUMBERS


def way_of(arrival, stamp):
    return (arrival - stamp) % FOUR_BYTES


# Ways wrap, so the shorter of the two directions is the change.
def way_change(before, after):
    change = (after - before) % FOUR_BYTES
    return min(change, FOUR_BYTES - change)


# Jitter is kept times 16, so that whole numbers are fine enough for it.
def next_jitter(jitter, change):
    return jitter + change - (jitter + 8) // 16
