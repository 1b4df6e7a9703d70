"""Promise 3: rp_take."""

import unittest

from latepackets.receiver import Receiver
from tests.helper import ask, begin, believed, come, firsts, last, packet, receive, take, takes, wholes


class Taken(unittest.TestCase):
    def test_whole(self):
        octets = packet(0x1235, time=0xFEDCBA98, kind=96, mark=1, carried=[3, 0, 255])
        calls = [begin(), *come(0x1234), receive(octets, 55), take()]
        self.assertEqual(last(*calls), [3, 3, 0, 255, 0x1235, 0xFEDCBA98, 96, 1])

    def test_without_mark(self):
        octets = packet(8, time=0x01020304, kind=127, carried=[9])
        self.assertEqual(last(begin(), *come(7), receive(octets), take()), [1, 9, 8, 0x01020304, 127, 0])

    def test_with_mark_and_kind_0(self):
        octets = packet(8, mark=1)
        self.assertEqual(last(begin(), *come(7), receive(octets), take()), [0, 8, 0, 0, 1])

    def test_nothing_carried_is_taken_too(self):
        self.assertEqual(last(begin(), *believed(8), take()), [0, 8, 0, 0, 0])

    def test_as_much_as_is_kept(self):
        carried = [k % 256 for k in range(1472)]
        calls = [begin(), *believed(8, carried=carried), take(1472)]
        self.assertEqual(last(*calls), [1472] + carried + [8, 0, 0, 0])

    def test_each_has_its_own_bytes(self):
        calls = [begin(), *come(7), *come(8, carried=[1], time=10), *come(10, carried=[3], time=30)]
        calls += [*come(9, carried=[2, 2], time=20), *takes(3)]
        self.assertEqual(ask(*calls)[-3:], [[1, 1, 8, 10, 0, 0], [2, 2, 2, 9, 20, 0, 0], [1, 3, 10, 30, 0, 0]])

    def test_in_order_each_once(self):
        calls = [begin(), *believed(8), *come(12, 10, 9, 11, 10, 9), *takes(6)]
        self.assertEqual(wholes(*calls), [8, 9, 10, 11, 12, None])

    def test_between_receiving(self):
        calls = [begin(), *believed(8), take(), take(), *come(9), take(), *come(10, 11), take(), take(), take()]
        self.assertEqual(wholes(*calls), [8, None, 9, 10, 11, None])

    def test_whole_number_modulo_2_to_32(self):
        receiver = Receiver(0, 1)
        for number in (65533, 65534):
            receiver.receive(packet(number), 0)
        receiver.take(1472)
        # As if numbers had wrapped 65535 times; too many packets to be sent here.
        receiver.counting.greatest += 65535 * 65536
        receiver.waiting.due += 65535 * 65536
        for number in (65535, 0, 1):
            self.assertEqual(receiver.receive(packet(number), 0), 1)
        told = [receiver.take(1472)[1] for _ in range(3)]
        self.assertEqual(told, [4294967295, 0, 1])


class Most(unittest.TestCase):
    def test_edge(self):
        calls = [begin(), *believed(8)]
        self.assertEqual(last(*calls, take(1471)), [-3])
        self.assertEqual(last(*calls, take(0)), [-3])
        self.assertEqual(last(*calls, take(1472)), [0, 8, 0, 0, 0])
        self.assertEqual(last(*calls, take(4294967295)), [0, 8, 0, 0, 0])

    def test_nothing_is_done(self):
        calls = [begin(), *believed(8), *come(9), take(1471), take(), take(0), take(), take()]
        self.assertEqual(wholes(*calls), [None, 8, None, 9, None])

    def test_ahead_of_all_else(self):
        self.assertEqual(last(begin(), take(1471)), [-3])
        self.assertEqual(last(begin(), *believed(8), take(), take(1471)), [-3])

    def test_ahead_of_what_is_lost(self):
        calls = [begin(1), *believed(8), take(), *come(10), take(1471), take(), take()]
        self.assertEqual(firsts(*calls), [0, 2, 1, 0, 1, -3, -2, 0])


class Lost(unittest.TestCase):
    def test_depth_packets_wait(self):
        for depth in (1, 2, 5, 32):
            with self.subTest(depth=depth):
                calls = [begin(depth), *believed(0), take(), *come(*range(2, 1 + depth))]
                self.assertEqual(last(*calls, take()), [-1])
                self.assertEqual(last(*calls, *come(1 + depth), take()), [-2])
                taken = wholes(*calls, *come(1 + depth), *takes(2 + depth))
                self.assertEqual(taken, [0, None] + list(range(2, 2 + depth)) + [None])

    def test_more_than_depth_wait(self):
        calls = [begin(2), *believed(0), take(), *come(2, 3, 4, 5), *takes(6)]
        self.assertEqual(wholes(*calls), [0, None, 2, 3, 4, 5, None])
        self.assertEqual(firsts(*calls)[-6:], [-2, 0, 0, 0, 0, -1])

    def test_several_lost_are_told_one_by_one(self):
        calls = [begin(1), *believed(0), take(), *come(5), *takes(6)]
        self.assertEqual(firsts(*calls)[-6:], [-2, -2, -2, -2, 0, -1])
        self.assertEqual(wholes(*calls)[-2:], [5, None])

    def test_the_next_one_is_taken_however_many_wait(self):
        calls = [begin(1), *believed(0), *come(1, 2), *takes(4)]
        self.assertEqual(wholes(*calls), [0, 1, 2, None])

    def test_fewer_wait_behind_a_gap_again(self):
        calls = [begin(2), *believed(0), take(), *come(2, 4), *takes(4)]
        self.assertEqual(firsts(*calls)[-4:], [-2, 0, -1, -1])
        self.assertEqual(firsts(*calls, *come(5), *takes(4))[-4:], [-2, 0, 0, -1])

    def test_late_one_comes_in_time(self):
        calls = [begin(2), *believed(0), take(), *come(2), take(), *come(1), *takes(3)]
        self.assertEqual(wholes(*calls), [0, None, 1, 2, None])

    def test_given_up_and_then_come(self):
        calls = [begin(1), *believed(0), take(), *come(2), take(), *come(1), *takes(2)]
        self.assertEqual(firsts(*calls), [0, 2, 1, 0, 1, -2, 0, 0, -1])
        self.assertEqual(wholes(*calls), [0, None, 2, None])

    def test_several_given_up_and_one_comes_in_time(self):
        calls = [begin(1), *believed(0), take(), *come(4), *takes(2), *come(2, 3), *takes(3)]
        self.assertEqual(firsts(*calls), [0, 2, 1, 0, 1, -2, -2, 0, 1, 0, 0, -1])
        self.assertEqual(wholes(*calls), [0, None, None, 3, 4, None])

    def test_across_wrapping(self):
        calls = [begin(1), *believed(65534), *come(1), *takes(5)]
        self.assertEqual(wholes(*calls), [65534, None, None, 65537, None])
        self.assertEqual(firsts(*calls)[-5:], [0, -2, -2, 0, -1])


class NotThere(unittest.TestCase):
    def test_nothing_has_come(self):
        self.assertEqual(firsts(begin(1), *takes(3)), [0, -1, -1, -1])

    def test_not_believed_yet(self):
        self.assertEqual(firsts(begin(1), *come(5), take(), *come(6), take()), [0, 2, -1, 1, 0])

    def test_all_are_taken(self):
        calls = [begin(1), *believed(5), *takes(3), *come(6), *takes(2)]
        self.assertEqual(firsts(*calls), [0, 2, 1, 0, -1, -1, 1, 0, -1])

    def test_nothing_is_done(self):
        calls = [begin(2), *believed(5), take(), *come(7), *takes(3), *come(6), *takes(2)]
        self.assertEqual(wholes(*calls), [5, None, None, None, 6, 7])


if __name__ == "__main__":
    unittest.main()
