"""How the tests write packets and lists of calls, and read what is answered."""

from latepackets.desk import answers

MOST = 1472
SOURCE = 0x01020304


def big(number, length):
    return list(number.to_bytes(length, "big"))


def packet(number, source=SOURCE, time=0, kind=0, mark=0, carried=(), others=(), extension=None, padding=None):
    """padding is the row of padding bytes as it stands; extension is its two bytes and its words' bytes."""
    first = 128 + len(others)
    row = []
    for other in others:
        row += big(other, 4)
    if extension is not None:
        first += 16
        row += list(extension[0]) + big(len(extension[1]) // 4, 2) + list(extension[1])
    row += list(carried)
    if padding is not None:
        first += 32
        row += list(padding)
    return [first, 128 * mark + kind] + big(number, 2) + big(time, 4) + big(source, 4) + row


def begin(depth=32, own=7):
    return [0, own, depth]


def receive(octets, arrival=0):
    return [1, arrival, len(octets)] + list(octets)


def come(*numbers, **more):
    """One rp_receive for each number."""
    return [receive(packet(number, **more)) for number in numbers]


def believed(first, **more):
    """Two packets, the second of which makes the source believed with the number first."""
    return come((first - 1) % 65536, first, **more)


def take(most=MOST):
    return [2, most]


def takes(count):
    return [take() for _ in range(count)]


def joined(calls):
    return [number for call in calls for number in call]


def parted(answered):
    """The answers call by call; each must be as long as it says."""
    parts = []
    place = 0
    while place < len(answered):
        length = answered[place]
        part = answered[place + 1:place + 1 + length]
        if length < 1 or len(part) != length:
            raise AssertionError(f"an answer of {length} numbers at {place} doesn't fit: {answered}")
        parts.append(part)
        place += 1 + length
    return parts


def ask(*calls):
    """The answers to these calls, a list each."""
    parts = parted(answers(joined(calls)))
    if len(parts) != len(calls):
        raise AssertionError(f"{len(calls)} calls, {len(parts)} answers")
    return parts


def last(*calls):
    return ask(*calls)[-1]


def firsts(*calls):
    """The number answered first to each call."""
    return [part[0] for part in ask(*calls)]


def wholes(*calls):
    """The whole numbers of the packets taken, in order; None for a refused rp_take."""
    found = []
    for call, part in zip(calls, ask(*calls)):
        if call[0] == 2:
            found.append(part[-4] if len(part) > 1 else None)
    return found
