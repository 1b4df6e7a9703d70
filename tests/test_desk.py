"""The interface: what is handed in stays, nothing is kept, and a slow second telling of the words agrees."""

import random
import unittest

from latepackets.desk import answers
from tests.helper import begin, believed, come, joined, packet, parted, receive, take, takes


class Unchanging(list):
    """A list that says so when it is changed, even for a while."""

    def refuse(self, *given, **named):
        raise AssertionError("what was handed in is changed")

    append = extend = insert = pop = remove = clear = sort = reverse = refuse
    __setitem__ = __delitem__ = __iadd__ = __imul__ = refuse


class Slow:
    """The words told once more, as literally as may be: number and wrappings apart, all that waits in one row."""

    def __init__(self, depth):
        self.depth = depth
        self.source = None
        self.unbelieved = None
        self.greatest = None
        self.wrapped = 0
        self.row = []
        self.due = None

    def begin_numbers(self, number):
        self.unbelieved = None
        self.greatest = number
        self.wrapped = 0
        self.row = []
        self.due = number

    def receive(self, octets):
        data = bytes(octets)
        if len(data) < 12 or data[0] & 0xC0 != 0x80:
            return [-1]
        rest = data[12:]
        others = data[0] & 15
        if len(rest) < 4 * others:
            return [-1]
        rest = rest[4 * others:]
        if data[0] & 16:
            if len(rest) < 4:
                return [-1]
            words = int.from_bytes(rest[2:4], "big")
            rest = rest[4:]
            if len(rest) < 4 * words:
                return [-1]
            rest = rest[4 * words:]
        if data[0] & 32:
            if not rest or rest[-1] == 0 or rest[-1] > len(rest):
                return [-1]
            rest = rest[:len(rest) - rest[-1]]
        source = data[8:12]
        if self.source is not None and self.source != source:
            return [-2]
        self.source = source
        number = int.from_bytes(data[2:4], "big")
        whole = self.count(number)
        if whole is None:
            return [2]
        if whole < self.due or whole in [kept[0] for kept in self.row] or len(self.row) == 64 or len(rest) > 1472:
            return [0]
        time = int.from_bytes(data[4:8], "big")
        self.row = sorted(self.row + [(whole, list(rest), time, data[1] & 127, data[1] >> 7)])
        return [1]

    def count(self, number):
        if self.greatest is not None:
            d = (number - self.greatest) % 65536
            if d < 3000:
                if number < self.greatest:
                    self.wrapped += 1
                self.greatest = number
                return number + 65536 * self.wrapped
            if d > 65436:
                return self.greatest + 65536 * self.wrapped - (65536 - d)
        if self.unbelieved is not None and number == (self.unbelieved + 1) % 65536:
            self.begin_numbers(number)
            return number
        self.unbelieved = number
        return None

    def take(self, most):
        if most < 1472:
            return [-3]
        if self.row and self.row[0][0] == self.due:
            whole, carried, time, kind, mark = self.row.pop(0)
            self.due += 1
            return [len(carried)] + carried + [whole % 2 ** 32, time, kind, mark]
        if len(self.row) >= self.depth:
            self.due += 1
            return [-2]
        return [-1]


def slow_answers(calls):
    slow = None
    found = []
    for call in calls:
        if call[0] == 1:
            found.append(slow.receive(call[3:]))
        elif call[0] == 2:
            found.append(slow.take(call[1]))
        elif 1 <= call[2] <= 32:
            slow = Slow(call[2])
            found.append([0])
        else:
            found.append([-1])
    return found


def some_packet(chance, number):
    octets = packet(
        number % 65536,
        source=2 if chance.random() < 0.03 else 1,
        time=chance.randrange(2 ** 32),
        kind=chance.randrange(128),
        mark=chance.randrange(2),
        carried=[chance.randrange(256) for _ in range(chance.choice((0, 1, 5, 20)))],
        others=[7] * chance.choice((0, 0, 0, 1, 3)),
        extension=chance.choice((None, None, ([1, 2], [0] * 4), ([1, 2], []))),
        padding=chance.choice((None, None, None, [1], [9, 2], [0, 0, 0, 4])),
    )
    if chance.random() < 0.05:
        octets = octets[:chance.randrange(len(octets) + 1)]
    if chance.random() < 0.05 and octets:
        octets[0] = chance.randrange(256)
    return octets


def some_calls(chance):
    calls = [begin(chance.choice((1, 1, 2, 3, 8, 32)))]
    number = chance.choice((0, 5, 30000, 65500, 65530, 65535))
    for _ in range(chance.choice((10, 60, 250))):
        what = chance.random()
        if what < 0.005:
            calls.append(begin(chance.choice((0, 1, 4, 32, 33))))
        elif what < 0.4:
            calls.append(take(chance.choice((1472,) * 9 + (1471,))))
        else:
            calls.append(receive(some_packet(chance, number), chance.randrange(2 ** 32)))
            number += chance.choice((1,) * 12 + (0, -1, -2, 2, 3, 5, 100, 2999, 3000, -99, -100, 30000))
    return calls


class Interface(unittest.TestCase):
    def test_answers_stand_one_behind_another(self):
        calls = [begin(1), *believed(8, carried=[4, 5]), take(), take(), *come(10), take(), begin(0)]
        expected = [1, 0, 1, 2, 1, 1, 7, 2, 4, 5, 8, 0, 0, 0, 1, -1, 1, 1, 1, -2, 1, -1]
        self.assertEqual(answers(joined(calls)), expected)

    def test_written_by_hand(self):
        first = [128, 0, 0, 7, 0, 0, 0, 1, 0, 0, 0, 9]
        second = [128, 225, 0, 8, 0, 0, 0, 2, 0, 0, 0, 9, 6]
        calls = [0, 3, 1] + [1, 50, 12] + first + [1, 51, 13] + second + [2, 1472]
        self.assertEqual(answers(calls), [1, 0, 1, 2, 1, 1, 6, 1, 6, 8, 2, 97, 1])

    def test_gives_back_a_list_of_whole_numbers(self):
        calls = [begin(), *believed(8, carried=[1], mark=1), *takes(2), receive([])]
        answered = answers(joined(calls))
        self.assertIs(type(answered), list)
        self.assertEqual({type(number) for number in answered}, {int})

    def test_what_is_handed_in_stays(self):
        calls = joined([begin(2), *believed(8, carried=[1, 2], padding=[1]), *come(9, 9, 11), *takes(4), begin(0)])
        before = list(calls)
        answers(Unchanging(calls))
        answers(calls)
        self.assertEqual(calls, before)

    def test_what_is_given_back_is_new(self):
        calls = joined([begin(), *believed(8, carried=[1, 2]), take()])
        first = answers(calls)
        before = list(first)
        first.clear()
        self.assertEqual(answers(calls), before)

    def test_asked_twice(self):
        calls = joined([begin(2), *believed(8), *come(9, 11, 9000), *takes(3)])
        first = answers(calls)
        self.assertEqual(answers(calls), first)
        self.assertEqual(answers([0, 1, 1, 2, 1472]), [1, 0, 1, -1])
        self.assertEqual(answers(calls), first)

    def test_the_longest_list(self):
        carried = [1] * (30000 - 3 - 15 - 15 - 2)
        calls = joined([begin(), *come(7), *come(8, carried=carried), take()])
        self.assertEqual(len(calls), 30000)
        self.assertEqual(answers(calls), [1, 0, 1, 2, 1, 0, 1, -1])

    def test_agrees_with_the_slow_telling(self):
        chance = random.Random(3550)
        seen = {}
        for _ in range(400):
            calls = some_calls(chance)
            expected = slow_answers(calls)
            self.assertEqual(parted(answers(joined(calls))), expected)
            for call, answer in zip(calls, expected):
                found = "taken" if len(answer) > 1 else answer[0]
                seen[call[0], found] = True
        wanted = [(0, 0), (0, -1), (1, 1), (1, 0), (1, 2), (1, -1), (1, -2), (2, "taken"), (2, -1), (2, -2), (2, -3)]
        self.assertEqual([want for want in wanted if want not in seen], [])


if __name__ == "__main__":
    unittest.main()
