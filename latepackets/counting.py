"""Counting: whole numbers, how many have come, and how evenly, since numbers began."""

NUMBERS = 65536
FAR_AHEAD = 3000
FAR_BEHIND = 65436
TIMES = 4294967296


class Counting:
    # The packet with which numbers begin has nothing before it to be compared with: it only sets the way.
    def __init__(self, number, way):
        self.first = number
        self.greatest = number
        self.came = 1
        self.jitter = 0
        self.way = way

    # None where the number lies too far from the greatest one to be believed.
    def whole_number(self, number):
        distance = (number - self.greatest) % NUMBERS
        if distance < FAR_AHEAD:
            return self.greatest + distance
        if distance > FAR_BEHIND:
            return self.greatest + distance - NUMBERS
        return None

    def add_packet(self, whole, way):
        self.greatest = max(self.greatest, whole)
        self.came += 1
        self.jitter = next_jitter(self.jitter, way_change(self.way, way))
        self.way = way


def number_behind(number):
    return (number + 1) % NUMBERS


def way_of(arrival, stamp):
    return (arrival - stamp) % TIMES


# Ways wrap, so the shorter of the two directions is the change.
def way_change(before, after):
    change = (after - before) % TIMES
    return min(change, TIMES - change)


# Jitter is kept times 16, so that whole numbers are fine enough for it.
def next_jitter(jitter, change):
    return jitter + change - (jitter + 8) // 16
