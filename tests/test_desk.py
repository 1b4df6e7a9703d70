"""The interface: what is handed in stays, nothing is kept, and a slow second telling of the words agrees."""

import random
import struct
import unittest

from latepackets.desk import answers
from tests.helper import (
    SOURCE, begin, believed, big, come, goodbye, heard, hearer, joined, packet, part, parted, receive, report, sender,
    take, takes, told,
)


class Unchanging(list):
    """A list that says so when it is changed, even for a while."""

    def refuse(self, *given, **named):
        raise AssertionError("what was handed in is changed")

    append = extend = insert = pop = remove = clear = sort = reverse = refuse
    __setitem__ = __delitem__ = __iadd__ = __imul__ = refuse


class Slow:
    """The words told once more, as literally as may be: number and wrappings apart, all that waits in one row."""

    def __init__(self, own, depth):
        self.own = own
        self.depth = depth
        self.source = None
        self.unbelieved = None
        self.greatest = None
        self.wrapped = 0
        self.row = []
        self.due = None
        self.senders = []
        self.gone = 0

    def begin_numbers(self, number):
        self.first = number
        self.ways = []
        self.reported = (0, 0)
        self.unbelieved = None
        self.greatest = number
        self.wrapped = 0
        self.row = []
        self.due = number

    def receive(self, octets, arrival):
        data = bytes(octets)
        if len(data) < 12 or data[0] & 0xC0 != 0x80:
            return [-1]
        rest = data[12:]
        others = data[0] & 15
        if len(rest) < 4 * others:
            return [-1]
        rest = rest[4 * others:]
        if data[0] & 16:
            if len(rest) < 4:
                return [-1]
            words = int.from_bytes(rest[2:4], "big")
            rest = rest[4:]
            if len(rest) < 4 * words:
                return [-1]
            rest = rest[4 * words:]
        if data[0] & 32:
            if not rest or rest[-1] == 0 or rest[-1] > len(rest):
                return [-1]
            rest = rest[:len(rest) - rest[-1]]
        source = data[8:12]
        if self.source is not None and self.source != source:
            return [-2]
        self.source = source
        number = int.from_bytes(data[2:4], "big")
        whole = self.count(number)
        if whole is None:
            return [2]
        self.ways.append((arrival - int.from_bytes(data[4:8], "big")) % 2 ** 32)
        if whole < self.due or whole in [kept[0] for kept in self.row] or len(self.row) == 64 or len(rest) > 1472:
            return [0]
        time = int.from_bytes(data[4:8], "big")
        self.row = sorted(self.row + [(whole, list(rest), time, data[1] & 127, data[1] >> 7)])
        return [1]

    def count(self, number):
        if self.greatest is not None:
            d = (number - self.greatest) % 65536
            if d < 3000:
                if number < self.greatest:
                    self.wrapped += 1
                self.greatest = number
                return number + 65536 * self.wrapped
            if d > 65436:
                return self.greatest + 65536 * self.wrapped - (65536 - d)
        if self.unbelieved is not None and number == (self.unbelieved + 1) % 65536:
            self.begin_numbers(number)
            return number
        self.unbelieved = number
        return None

    def take(self, most):
        if most < 1472:
            return [-3]
        if self.row and self.row[0][0] == self.due:
            whole, carried, time, kind, mark = self.row.pop(0)
            self.due += 1
            return [len(carried)] + carried + [whole % 2 ** 32, time, kind, mark]
        if len(self.row) >= self.depth:
            self.due += 1
            return [-2]
        return [-1]

    def sums(self):
        """Expected, come, missing and jitter / 16, from all that was counted since numbers began."""
        expected = self.greatest + 65536 * self.wrapped - self.first + 1
        jitter = 0
        for before, after in zip(self.ways, self.ways[1:]):
            signed = (after - before + 2 ** 31) % 2 ** 32 - 2 ** 31
            jitter = jitter + abs(signed) - (jitter + 8) // 16
        return expected, len(self.ways), expected - len(self.ways), jitter // 16

    def report(self, now):
        if self.greatest is None:
            return [8] + list(bytes.fromhex("80C90001") + struct.pack(">I", self.own))
        expected, came, missing, jitter = self.sums()
        e, c = expected - self.reported[0], came - self.reported[1]
        self.reported = (expected, came)
        share = 0 if e == 0 or c >= e else min(255, (e - c) * 256 // e)
        middle, then = self.senders[-1] if self.senders else (0, now)
        data = bytes.fromhex("81C90007") + struct.pack(">I", self.own) + self.source
        data += bytes([share]) + (missing & 0xFFFFFF).to_bytes(3, "big")
        data += struct.pack(">III", self.greatest + 65536 * self.wrapped, jitter, middle)
        data += struct.pack(">I", (now - then) % 2 ** 32)
        return [32] + list(data)

    def heard(self, octets, now):
        rest = bytes(octets)
        found = []
        while rest:
            if len(rest) < 8:
                return [-1]
            size = 4 * (int.from_bytes(rest[2:4], "big") + 1)
            if size < 8 or size > len(rest):
                return [-1]
            found.append(rest[:size])
            rest = rest[size:]
        if not found or found[0][1] not in (200, 201):
            return [-1]
        for place, data in enumerate(found):
            bare = len(data)
            if data[0] >> 6 != 2 or not 200 <= data[1] <= 204:
                return [-1]
            if data[0] & 32:
                if place == 0 or place != len(found) - 1 or data[-1] == 0 or data[-1] % 4 or data[-1] > len(data) - 8:
                    return [-1]
                bare -= data[-1]
            count = data[0] & 31
            if bare < {200: 28 + 24 * count, 201: 8 + 24 * count, 203: 4 + 4 * count}.get(data[1], 0):
                return [-1]
        for data in found if self.source is not None else []:
            if data[1] == 200 and data[4:8] == self.source:
                self.senders.append((int.from_bytes(data[10:14], "big"), now))
            if data[1] == 203:
                names = [data[4 + 4 * k:8 + 4 * k] for k in range(data[0] & 31)]
                self.gone = 1 if self.gone or self.source in names else 0
        return [len(found)]

    def told(self):
        if self.source is None:
            return [-1]
        source = int.from_bytes(self.source, "big")
        if self.greatest is None:
            return [self.gone, source, 0, 0, 0, 0, 0]
        expected, came, missing, jitter = self.sums()
        counts = [self.greatest + 65536 * self.wrapped, came, missing & 0xFFFFFF, jitter, len(self.row)]
        return [self.gone, source] + counts


def slow_answers(calls):
    slow = None
    found = []
    for call in calls:
        if call[0] == 1:
            found.append(slow.receive(call[3:], call[1]))
        elif call[0] == 2:
            found.append(slow.take(call[1]))
        elif call[0] == 3:
            found.append(slow.report(call[1]))
        elif call[0] == 4:
            found.append(slow.heard(call[3:], call[1]))
        elif call[0] == 5:
            found.append(slow.told())
        elif 1 <= call[2] <= 32:
            slow = Slow(call[1], call[2])
            found.append([0])
        else:
            found.append([-1])
    return found


def some_packet(chance, number, near):
    octets = packet(
        number % 65536,
        source=2 if chance.random() < 0.03 else 1,
        time=chance.randrange(near),
        kind=chance.randrange(128),
        mark=chance.randrange(2),
        carried=[chance.randrange(256) for _ in range(chance.choice((0, 1, 5, 20)))],
        others=[7] * chance.choice((0, 0, 0, 1, 3)),
        extension=chance.choice((None, None, ([1, 2], [0] * 4), ([1, 2], []))),
        padding=chance.choice((None, None, None, [1], [9, 2], [0, 0, 0, 4])),
    )
    if chance.random() < 0.05:
        octets = octets[:chance.randrange(len(octets) + 1)]
    if chance.random() < 0.05 and octets:
        octets[0] = chance.randrange(256)
    return octets


def some_part(chance):
    kind = chance.choice((200, 200, 201, 202, 203, 203, 204))
    count = chance.choice((0, 0, 1, 2, 3))
    least = {200: 24 + 24 * count, 201: 4 + 24 * count, 203: 4 * count}.get(kind, 4)
    length = max(0, least + chance.choice((0,) * 20 + (4, 4, 8, -4)))
    body = joined([big(chance.choice((1, 1, 2, chance.randrange(2 ** 32))), 4) for _ in range(length // 4)])
    padding = chance.choice((None,) * 20 + ([0] * 3 + [4], [0] * 7 + [8], [0] * 3 + [chance.randrange(13)]))
    return part(kind, body, count, padding)


def some_parts(chance):
    octets = []
    for _ in range(chance.choice((0, 1, 1, 1, 2, 3))):
        octets += some_part(chance)
    if chance.random() < 0.7:
        octets = chance.choice((hearer(1), sender(1, chance.randrange(2 ** 32)))) + octets
    if chance.random() < 0.05 and octets:
        octets[chance.randrange(len(octets))] = chance.randrange(256)
    if chance.random() < 0.05:
        octets = octets[:chance.randrange(len(octets) + 1)]
    return octets


def some_calls(chance):
    calls = [begin(chance.choice((1, 1, 2, 3, 8, 32)), chance.randrange(2 ** 32))]
    number = chance.choice((0, 5, 30000, 65500, 65530, 65535))
    near = chance.choice((100, 100000, 2 ** 32))
    for _ in range(chance.choice((10, 60, 250))):
        what = chance.random()
        if what < 0.005:
            calls.append(begin(chance.choice((0, 1, 4, 32, 33))))
        elif what < 0.06:
            calls.append(report(chance.randrange(2 ** 32)))
        elif what < 0.12:
            calls.append(heard(some_parts(chance), chance.randrange(2 ** 32)))
        elif what < 0.18:
            calls.append(told())
        elif what < 0.45:
            calls.append(take(chance.choice((1472,) * 9 + (1471,))))
        else:
            calls.append(receive(some_packet(chance, number, near), chance.randrange(near)))
            number += chance.choice((1,) * 12 + (0, -1, -2, 2, 3, 5, 100, 2999, 3000, -99, -100, 30000))
    return calls


class Interface(unittest.TestCase):
    def test_answers_stand_one_behind_another(self):
        calls = [begin(1), *believed(8, carried=[4, 5]), take(), take(), *come(10), take(), begin(0)]
        expected = [1, 0, 1, 2, 1, 1, 7, 2, 4, 5, 8, 0, 0, 0, 1, -1, 1, 1, 1, -2, 1, -1]
        self.assertEqual(answers(joined(calls)), expected)

    def test_written_by_hand(self):
        first = [128, 0, 0, 7, 0, 0, 0, 1, 0, 0, 0, 9]
        second = [128, 225, 0, 8, 0, 0, 0, 2, 0, 0, 0, 9, 6]
        calls = [0, 3, 1] + [1, 50, 12] + first + [1, 51, 13] + second + [2, 1472]
        self.assertEqual(answers(calls), [1, 0, 1, 2, 1, 1, 6, 1, 6, 8, 2, 97, 1])

    def test_reports_written_by_hand(self):
        first = [128, 0, 0, 7, 0, 0, 0, 1, 0, 0, 0, 9]
        second = [128, 0, 0, 8, 0, 0, 0, 2, 0, 0, 0, 9]
        times = [128, 200, 0, 6, 0, 0, 0, 9, 1, 2, 3, 4, 5, 6, 7, 8, 0, 0, 0, 0, 0, 0, 0, 0, 0, 0, 0, 0]
        leaving = [129, 203, 0, 1, 0, 0, 0, 9]
        calls = [0, 3, 1] + [5] + [3, 70] + [1, 50, 12] + first + [5] + [1, 51, 12] + second
        calls += [4, 80, 36] + times + leaving + [4, 81, 8] + leaving + [5] + [3, 90]
        expected = [1, 0] + [1, -1] + [9, 8, 128, 201, 0, 1, 0, 0, 0, 3] + [1, 2] + [7, 0, 9, 0, 0, 0, 0, 0] + [1, 1]
        expected += [1, 2] + [1, -1] + [7, 1, 9, 8, 1, 0, 0, 1] + [33, 32, 129, 201, 0, 7, 0, 0, 0, 3, 0, 0, 0, 9]
        expected += [0, 0, 0, 0, 0, 0, 0, 8, 0, 0, 0, 0, 3, 4, 5, 6, 0, 0, 0, 10]
        self.assertEqual(answers(calls), expected)

    def test_gives_back_a_list_of_whole_numbers(self):
        calls = [begin(), told(), *believed(8, carried=[1], mark=1), *takes(2), receive([]), *come(12), report()]
        calls += [told(), heard(sender() + goodbye(SOURCE)), heard([]), report(), told()]
        answered = answers(joined(calls))
        self.assertIs(type(answered), list)
        self.assertEqual({type(number) for number in answered}, {int})

    def test_what_is_handed_in_stays(self):
        calls = [begin(2), *believed(8, carried=[1, 2], padding=[1]), *come(9, 9, 11), *takes(4), begin(0), report(3)]
        calls += [heard(sender() + goodbye(SOURCE, padding=[0, 0, 0, 4]), 5), heard(goodbye(SOURCE)), report(9), told()]
        calls = joined(calls)
        before = list(calls)
        answers(Unchanging(calls))
        answers(calls)
        self.assertEqual(calls, before)

    def test_what_is_given_back_is_new(self):
        calls = joined([begin(), *believed(8, carried=[1, 2]), take()])
        first = answers(calls)
        before = list(first)
        first.clear()
        self.assertEqual(answers(calls), before)

    def test_asked_twice(self):
        calls = [begin(2), *believed(8), *come(9, 11, 9000), *takes(3), report(3), heard(sender() + goodbye(SOURCE), 4)]
        calls = joined([*calls, report(5), told()])
        first = answers(calls)
        self.assertEqual(answers(calls), first)
        self.assertEqual(answers([0, 1, 1, 2, 1472, 5]), [1, 0, 1, -1, 1, -1])
        self.assertEqual(answers(calls), first)

    def test_the_longest_list(self):
        carried = [1] * (30000 - 3 - 15 - 15 - 2)
        calls = joined([begin(), *come(7), *come(8, carried=carried), take()])
        self.assertEqual(len(calls), 30000)
        self.assertEqual(answers(calls), [1, 0, 1, 2, 1, 0, 1, -1])

    def test_the_longest_list_of_parts(self):
        octets = hearer() * 3749
        calls = joined([begin(), heard(octets)]) + [5, 5]
        self.assertEqual(len(calls), 30000)
        self.assertEqual(answers(calls), [1, 0, 1, 3749, 1, -1, 1, -1])

    def test_agrees_with_the_slow_telling(self):
        chance = random.Random(3550)
        seen = {}
        for _ in range(400):
            calls = some_calls(chance)
            expected = slow_answers(calls)
            self.assertEqual(parted(answers(joined(calls))), expected)
            for call, answer in zip(calls, expected):
                found = len(answer) if call[0] in (3, 5) else "taken" if len(answer) > 1 else answer[0]
                seen[call[0], found] = True
        wanted = [(0, 0), (0, -1), (1, 1), (1, 0), (1, 2), (1, -1), (1, -2), (2, "taken"), (2, -1), (2, -2), (2, -3)]
        wanted += [(3, 9), (3, 33), (4, -1), (4, 1), (4, 2), (4, 3), (4, 4), (5, 1), (5, 7)]
        self.assertEqual([want for want in wanted if want not in seen], [])


if __name__ == "__main__":
    unittest.main()
