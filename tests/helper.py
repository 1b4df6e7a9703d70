"""How the tests write packets and lists of calls, and read what is answered."""

from latepackets.desk import answers

MOST = 1472
SOURCE = 0x01020304


def big(number, length):
    return list(number.to_bytes(length, "big"))


def packet(number, source=SOURCE, time=0, kind=0, mark=0, carried=(), others=(), extension=None, padding=None):
    """padding is the row of padding bytes as it stands; extension is its two bytes and its words' bytes."""
    first = 128 + len(others)
    row = []
    for other in others:
        row += big(other, 4)
    if extension is not None:
        first += 16
        row += list(extension[0]) + big(len(extension[1]) // 4, 2) + list(extension[1])
    row += list(carried)
    if padding is not None:
        first += 32
        row += list(padding)
    return [first, 128 * mark + kind] + big(number, 2) + big(time, 4) + big(source, 4) + row


def begin(depth=32, own=7):
    return [0, own, depth]


def receive(octets, arrival=0):
    return [1, arrival, len(octets)] + list(octets)


def come(*numbers, **more):
    """One rp_receive for each number."""
    return [receive(packet(number, **more)) for number in numbers]


def believed(first, **more):
    """Two packets, the second of which makes the source believed with the number first."""
    return come((first - 1) % 65536, first, **more)


def take(most=MOST):
    return [2, most]


def takes(count):
    return [take() for _ in range(count)]


def report(now=0):
    return [3, now]


def heard(octets, now=0):
    return [4, now, len(octets)] + list(octets)


def told():
    return [5]


def part(kind, body, count=0, padding=None, words=None, first=None):
    """body is what stands behind the first four bytes; padding is the row of padding bytes as it stands."""
    row = list(body) + list(padding or ())
    if first is None:
        first = 128 + count + (0 if padding is None else 32)
    return [first, kind] + big(len(row) // 4 if words is None else words, 2) + row


def sender(source=SOURCE, middle=0x11223344, **more):
    """A 200 with a count of 0, if nothing else is said, and a time whose bytes all differ."""
    return part(200, big(source, 4) + [0xA1, 0xA2] + big(middle, 4) + [0xA3, 0xA4] + [0xEE] * 12, **more)


def hearer(source=SOURCE, **more):
    return part(201, big(source, 4), **more)


def goodbye(*sources, count=None, **more):
    return part(203, joined([big(source, 4) for source in sources]), len(sources) if count is None else count, **more)


def joined(calls):
    return [number for call in calls for number in call]


def parted(answered):
    """The answers call by call; each must be as long as it says."""
    parts = []
    place = 0
    while place < len(answered):
        length = answered[place]
        part = answered[place + 1:place + 1 + length]
        if length < 1 or len(part) != length:
            raise AssertionError(f"an answer of {length} numbers at {place} doesn't fit: {answered}")
        parts.append(part)
        place += 1 + length
    return parts


def ask(*calls):
    """The answers to these calls, a list each."""
    parts = parted(answers(joined(calls)))
    if len(parts) != len(calls):
        raise AssertionError(f"{len(calls)} calls, {len(parts)} answers")
    return parts


def last(*calls):
    return ask(*calls)[-1]


def firsts(*calls):
    """The number answered first to each call."""
    return [part[0] for part in ask(*calls)]


def wholes(*calls):
    """The whole numbers of the packets taken, in order; None for a refused rp_take."""
    found = []
    for call, part in zip(calls, ask(*calls)):
        if call[0] == 2:
            found.append(part[-4] if len(part) > 1 else None)
    return found
