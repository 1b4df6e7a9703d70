"""What is counted since numbers began: the first, how many came, jitter."""

import unittest

from latepackets.counting import Counting, held_missing, next_jitter, share_lost, way_change, way_of
from latepackets.receiver import Receiver
from tests.helper import packet


def received(*packets):
    """A receiver after packets that are given as number, time, arrival."""
    receiver = Receiver(0, 1)
    for number, time, arrival in packets:
        receiver.receive(packet(number, time=time), arrival)
    return receiver


class Ways(unittest.TestCase):
    def test_way_wraps(self):
        self.assertEqual(way_of(10, 4), 6)
        self.assertEqual(way_of(4, 10), 4294967290)

    def test_change_has_no_sign(self):
        self.assertEqual(way_change(5, 9), 4)
        self.assertEqual(way_change(9, 5), 4)
        self.assertEqual(way_change(3, 3), 0)

    def test_change_goes_the_shorter_way_round(self):
        self.assertEqual(way_change(4294967295, 1), 2)
        self.assertEqual(way_change(1, 4294967295), 2)
        self.assertEqual(way_change(0, 2147483647), 2147483647)
        self.assertEqual(way_change(0, 2147483648), 2147483648)
        self.assertEqual(way_change(0, 2147483649), 2147483647)

    def test_jitter_is_rounded_towards_below(self):
        self.assertEqual(next_jitter(0, 7), 7)
        self.assertEqual(next_jitter(7, 0), 7)
        self.assertEqual(next_jitter(8, 0), 7)
        self.assertEqual(next_jitter(23, 0), 22)
        self.assertEqual(next_jitter(24, 100), 122)


class Shares(unittest.TestCase):
    def test_towards_below(self):
        self.assertEqual(share_lost(3, 2), 85)
        self.assertEqual(share_lost(257, 256), 0)
        self.assertEqual(share_lost(256, 255), 1)
        self.assertEqual(share_lost(256, 1), 255)

    def test_255_at_most(self):
        self.assertEqual(share_lost(1, 0), 255)
        self.assertEqual(share_lost(900000, 0), 255)
        self.assertEqual(share_lost(5, -1), 255)

    def test_none(self):
        for expected, came in ((0, 0), (0, 5), (0, -5), (5, 5), (5, 6), (1, 900)):
            self.assertEqual(share_lost(expected, came), 0)

    def test_missing_within_three_bytes(self):
        for missing in (-8388608, -1, 0, 1, 8388607):
            self.assertEqual(held_missing(missing), missing)
        self.assertEqual(held_missing(8388608), 8388607)
        self.assertEqual(held_missing(-8388609), -8388608)


class Counted(unittest.TestCase):
    def test_numbers_begin(self):
        counting = received((7, 0, 0), (8, 100, 500)).counting
        self.assertEqual((counting.first, counting.greatest, counting.came), (8, 8, 1))
        self.assertEqual((counting.jitter, counting.way), (0, 400))

    def test_nothing_is_counted_ahead_of_belief(self):
        self.assertIsNone(received((7, 0, 0)).counting)

    def test_every_counted_one_is_measured(self):
        counting = received((7, 0, 9), (8, 0, 100), (9, 0, 130), (8, 0, 110), (9, 0, 110), (5, 0, 90)).counting
        self.assertEqual(counting.came, 5)
        # 30; then 30 + 20 - 2; 48 + 0 - 3; 45 + 20 - 3.
        self.assertEqual(counting.jitter, 62)

    def test_one_that_is_not_believed_is_not_measured(self):
        counting = received((7, 0, 0), (8, 0, 100), (9000, 0, 777), (9, 0, 100)).counting
        self.assertEqual((counting.came, counting.jitter), (2, 0))

    def test_begun_anew(self):
        counting = received((7, 0, 0), (8, 0, 100), (9, 0, 200), (9000, 0, 777), (9001, 0, 800), (9002, 0, 801)).counting
        self.assertEqual((counting.first, counting.greatest, counting.came), (9001, 9002, 2))
        self.assertEqual((counting.jitter, counting.way), (1, 801))

    def test_whole_numbers(self):
        counting = Counting(65000, 0)
        self.assertEqual(counting.whole_number(65000), 65000)
        self.assertEqual(counting.whole_number(2463), 67999)
        self.assertIsNone(counting.whole_number(2464))
        self.assertIsNone(counting.whole_number(64900))
        self.assertEqual(counting.whole_number(64901), 64901)
        self.assertEqual(Counting(0, 0).whole_number(65437), -99)


if __name__ == "__main__":
    unittest.main()
