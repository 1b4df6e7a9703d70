"""Promise 2: rp_receive."""

import unittest

from latepackets.receiver import Receiver
from tests.helper import ask, begin, believed, big, come, firsts, last, packet, receive, take, takes, wholes


def whole_of_carried(octets):
    """What is carried by a packet with number 8, once its source is believed; None if it is none."""
    answered = ask(begin(), *come(7), receive(octets), take())
    if answered[2] == [-1]:
        return None
    return answered[3][1:-4]


class Packets(unittest.TestCase):
    def test_bare_head(self):
        self.assertEqual(whole_of_carried(packet(8)), [])

    def test_carried(self):
        self.assertEqual(whole_of_carried(packet(8, carried=[1, 0, 255])), [1, 0, 255])

    def test_fewer_than_twelve_bytes(self):
        for length in range(12):
            with self.subTest(length=length):
                self.assertEqual(last(begin(), receive(packet(8)[:length])), [-1])

    def test_another_version(self):
        # Fits whatever the lower bits of its first byte say.
        octets = packet(8, carried=[0] * 99, padding=[1])
        for first in range(256):
            with self.subTest(first=first):
                octets[0] = first
                self.assertEqual(last(begin(), receive(octets)), [2 if first // 64 == 2 else -1])

    def test_other_sources(self):
        for count in (1, 2, 15):
            others = [1000 + k for k in range(count)]
            self.assertEqual(whole_of_carried(packet(8, others=others, carried=[5, 6])), [5, 6])
            self.assertEqual(whole_of_carried(packet(8, others=others)), [])

    def test_other_sources_cut_short(self):
        octets = packet(8, others=[1, 2])
        for length in range(12, 20):
            self.assertEqual(last(begin(), receive(octets[:length])), [-1])

    def test_extension(self):
        for words in (0, 1, 2, 300):
            octets = packet(8, extension=([9, 9], [3] * (4 * words)), carried=[5, 6])
            self.assertEqual(whole_of_carried(octets), [5, 6])

    def test_extension_behind_other_sources(self):
        octets = packet(8, others=[1, 2, 3], extension=([9, 9], [3] * 8), carried=[5])
        self.assertEqual(whole_of_carried(octets), [5])

    def test_extension_cut_short(self):
        octets = packet(8, extension=([0, 0], [0, 0, 0, 0]))
        for length in range(12, 20):
            with self.subTest(length=length):
                self.assertEqual(last(begin(), receive(octets[:length])), [-1])
        self.assertEqual(whole_of_carried(octets), [])

    def test_extension_longer_than_the_packet(self):
        octets = packet(8, extension=([0, 0], []), carried=[1] * 40)
        octets[14:16] = [255, 255]
        self.assertEqual(last(begin(), receive(octets)), [-1])

    def test_padding(self):
        self.assertEqual(whole_of_carried(packet(8, carried=[5, 6], padding=[1])), [5, 6])
        self.assertEqual(whole_of_carried(packet(8, carried=[5, 6], padding=[0, 0, 3])), [5, 6])
        self.assertEqual(whole_of_carried(packet(8, carried=[5, 6], padding=[7] * 254 + [255])), [5, 6])

    def test_padding_is_all_there_is(self):
        self.assertEqual(whole_of_carried(packet(8, padding=[0, 2])), [])

    def test_padding_of_length_zero(self):
        self.assertIsNone(whole_of_carried(packet(8, carried=[5, 6], padding=[0])))

    def test_more_padding_than_there_is(self):
        self.assertIsNone(whole_of_carried(packet(8, carried=[5], padding=[0, 4])))
        self.assertEqual(whole_of_carried(packet(8, carried=[5], padding=[0, 3])), [])

    def test_padding_does_not_reach_into_what_stands_ahead(self):
        self.assertIsNone(whole_of_carried(packet(8, others=[1], padding=[2])))
        self.assertIsNone(whole_of_carried(packet(8, extension=([0, 0], [1] * 4), padding=[2])))

    def test_padding_without_a_byte_for_it(self):
        for source in (0x01020300, 0x01020301):
            octets = packet(8, source=source, padding=[])
            self.assertEqual(last(begin(), receive(octets)), [-1])

    def test_all_at_once(self):
        octets = packet(8, others=[1, 2], extension=([1, 2], [3] * 12), carried=[4, 5], padding=[9, 9, 3])
        self.assertEqual(whole_of_carried(octets), [4, 5])

    def test_all_that_bytes_may_have(self):
        longest = packet(8, carried=[1] * (65535 - 12))
        self.assertEqual(firsts(begin(), *come(7), receive(longest), receive(longest + [1])), [0, 2, 0, -1])
        self.assertEqual(last(begin(), receive(longest + [1])), [-1])

    def test_every_byte_of_number_and_source(self):
        octets = [128, 0] + [0x12, 0x34] + big(0, 4) + [0xFE, 0xDC, 0xBA, 0x98]
        follows = [128, 0] + [0x12, 0x35] + big(0, 4) + [0xFE, 0xDC, 0xBA, 0x98]
        self.assertEqual(wholes(begin(), receive(octets), receive(follows), take()), [0x1235])
        for place in range(8, 12):
            other = list(follows)
            other[place] ^= 1
            self.assertEqual(last(begin(), receive(octets), receive(other)), [-2])

    def test_none_does_nothing(self):
        calls = [begin(), receive([]), *come(7), receive(packet(30, padding=[0])), *come(8)]
        self.assertEqual(firsts(*calls), [0, -1, 2, -1, 1])
        none = packet(7, source=99)[:11]
        self.assertEqual(firsts(begin(), receive(none), *come(7), *come(8)), [0, -1, 2, 1])


class Source(unittest.TestCase):
    def test_only_the_first_is_listened_to(self):
        calls = [begin(), *come(7), *come(8, source=2), *come(8), *come(9, source=2)]
        self.assertEqual(firsts(*calls), [0, 2, -2, 1, -2])

    def test_another_source_does_not_touch_the_wait(self):
        calls = [begin(), *come(7), *come(50, 51, source=2), *come(8)]
        self.assertEqual(firsts(*calls), [0, 2, -2, -2, 1])

    def test_another_source_does_not_touch_numbers(self):
        calls = [begin(), *believed(8), *come(9000, 9001, 9, source=2), *come(9), *takes(3)]
        self.assertEqual(firsts(*calls), [0, 2, 1, -2, -2, -2, 1, 0, 0, -1])

    def test_another_source_that_is_none(self):
        self.assertEqual(firsts(begin(), *come(7), receive(packet(8, source=2, padding=[0]))), [0, 2, -1])

    def test_source_may_be_0(self):
        self.assertEqual(firsts(begin(), *come(7, 8, source=0), *come(9, source=5)), [0, 2, 1, -2])


class Belief(unittest.TestCase):
    def test_two_one_behind_another(self):
        self.assertEqual(firsts(begin(), *come(7, 8)), [0, 2, 1])

    def test_wraps(self):
        self.assertEqual(firsts(begin(), *come(65535, 0)), [0, 2, 1])
        self.assertEqual(wholes(begin(), *come(65535, 0), take()), [0])

    def test_number_0_first(self):
        self.assertEqual(firsts(begin(), *come(0, 1)), [0, 2, 1])

    def test_wait_begun_anew(self):
        self.assertEqual(firsts(begin(), *come(7, 9, 8, 8, 7, 8)), [0, 2, 2, 2, 2, 2, 1])
        self.assertEqual(firsts(begin(), *come(7, 20, 8, 21, 22)), [0, 2, 2, 2, 2, 1])

    def test_the_same_twice(self):
        self.assertEqual(firsts(begin(), *come(7, 7, 8)), [0, 2, 2, 1])

    def test_the_first_of_two_is_not_kept(self):
        self.assertEqual(wholes(begin(), *come(7, 8), take(), take()), [8, None])
        self.assertEqual(firsts(begin(), *come(7, 8, 7)), [0, 2, 1, 0])

    def test_one_that_carries_too_much_makes_believed(self):
        big_one = receive(packet(8, carried=[0] * 1473))
        self.assertEqual(firsts(begin(1), *come(7), big_one, *come(9), *takes(2)), [0, 2, 0, 1, -2, 0])


class Distance(unittest.TestCase):
    """d is the number less the greatest so far, modulo 65536."""

    def answer_at(self, d, first):
        return last(begin(), *believed(first), *come((first + d) % 65536))

    def test_cases(self):
        expected = {0: 0, 1: 1, 2: 1, 2999: 1, 3000: 2, 30000: 2, 65436: 2, 65437: 0, 65535: 0}
        for first in (1, 100, 30000, 64000, 65535):
            for d, answer in expected.items():
                with self.subTest(first=first, d=d):
                    self.assertEqual(self.answer_at(d, first), [answer])

    def test_old_ones_are_kept_where_they_are_not_too_late(self):
        for first in (5, 65500):
            calls = [begin(), *believed(first), *come((first + 150) % 65536)]
            for d, answer in {65535: 1, 65437: 1, 65436: 2}.items():
                with self.subTest(first=first, d=d):
                    self.assertEqual(last(*calls, *come((first + 150 + d) % 65536)), [answer])

    def test_old_one_does_not_become_the_greatest(self):
        calls = [begin(), *believed(100), *come(200, 150, 3199)]
        self.assertEqual(firsts(*calls), [0, 2, 1, 1, 1, 1])
        self.assertEqual(last(begin(), *believed(100), *come(200, 150, 3200)), [2])

    def test_greatest_moves_on(self):
        calls = [begin(), *believed(0), *come(2999, 5998, 8997, 8997 + 3000)]
        self.assertEqual(firsts(*calls), [0, 2, 1, 1, 1, 1, 2])

    def test_greatest_moves_on_though_not_kept(self):
        calls = [begin(), *believed(0), *come(2999, carried=[0] * 1473), *come(5998)]
        self.assertEqual(firsts(*calls), [0, 2, 1, 0, 1])

    def test_not_believed_does_not_move_the_greatest(self):
        self.assertEqual(firsts(begin(), *believed(10), *come(3010, 3012, 11)), [0, 2, 1, 2, 2, 1])


class WholeNumbers(unittest.TestCase):
    def test_wrapping(self):
        calls = [begin(), *believed(65534), *come(65535, 0, 1), *takes(5)]
        self.assertEqual(wholes(*calls), [65534, 65535, 65536, 65537, None])

    def test_old_one_from_ahead_of_the_wrapping(self):
        calls = [begin(), *believed(65534), *come(1, 65535, 0), *takes(4)]
        self.assertEqual(wholes(*calls), [65534, 65535, 65536, 65537])

    def test_wraps_once_only(self):
        calls = [begin(), *believed(65535), *come(3, 65535, 2, 0, 1), *takes(5)]
        self.assertEqual(wholes(*calls), [65535, 65536, 65537, 65538, 65539])

    def test_same_number_does_not_wrap(self):
        calls = [begin(), *believed(5), *come(5, 6, 6), *takes(2)]
        self.assertEqual(wholes(*calls), [5, 6])

    def test_several_wrappings(self):
        numbers = [(2500 * k) % 65536 for k in range(1, 61)]
        calls = [begin(1), *believed(0), *come(*numbers)]
        self.assertEqual(firsts(*calls), [0, 2] + [1] * 61)
        # Each of them would only be taken behind 2499 lost ones: too many calls for one list.
        receiver = Receiver(0, 1)
        for number in [65535, 0] + numbers:
            receiver.receive(packet(number), 0)
        self.assertEqual(sorted(receiver.waiting.kept), [2500 * k for k in range(61)])
        self.assertEqual(receiver.counting.greatest, 150000)

    def test_old_one_below_0(self):
        calls = [begin(), *believed(3), *come(65535), *takes(2)]
        self.assertEqual(firsts(*calls), [0, 2, 1, 0, 0, -1])


class BeginAnew(unittest.TestCase):
    def test_two_far_off_one_behind_another(self):
        calls = [begin(), *believed(10), *come(11, 20000, 20001, 20002), *takes(3)]
        self.assertEqual(firsts(*calls), [0, 2, 1, 1, 2, 1, 1, 0, 0, -1])
        self.assertEqual(wholes(*calls), [20001, 20002, None])

    def test_what_waits_is_forgotten(self):
        calls = [begin(1), *believed(10), *come(12, 20000, 20001), take(), *come(20002), *takes(3)]
        self.assertEqual(wholes(*calls), [20001, 20002, None, None])
        self.assertEqual(last(*calls), [-1])

    def test_next_to_be_taken_may_lie_lower(self):
        calls = [begin(), *believed(50000), *come(100, 101), take()]
        self.assertEqual(wholes(*calls), [101])

    def test_wrappings_are_forgotten(self):
        calls = [begin(), *believed(65535), *come(0, 30000, 30001), take()]
        self.assertEqual(wholes(*calls), [30001])

    def test_wraps(self):
        calls = [begin(), *believed(30000), *come(65535, 0), take()]
        self.assertEqual(firsts(*calls), [0, 2, 1, 2, 1, 0])
        self.assertEqual(wholes(*calls), [0])

    def test_another_number_is_not_enough(self):
        calls = [begin(), *believed(10), *come(20000, 20000, 20002, 20001, 19999, 20000)]
        self.assertEqual(firsts(*calls), [0, 2, 1, 2, 2, 2, 2, 2, 1])

    def test_one_that_is_believed_may_come_between(self):
        calls = [begin(), *believed(10), *come(20000, 11, 20001), take()]
        self.assertEqual(firsts(*calls), [0, 2, 1, 2, 1, 1, 0])
        self.assertEqual(wholes(*calls), [20001])

    def test_what_was_doubted_ahead_of_belief_does_not_count(self):
        # 29999 makes the wait for 30000, which never ends; 9 and 10 make the source believed.
        calls = [begin(), *come(29999), *believed(10), *come(30000)]
        self.assertEqual(firsts(*calls), [0, 2, 2, 1, 2])

    def test_what_was_doubted_ahead_of_a_beginning_does_not_count(self):
        calls = [begin(), *believed(10), *come(20000, 20001, 20301, 20001)]
        self.assertEqual(firsts(*calls), [0, 2, 1, 2, 1, 1, 2])
        self.assertEqual(firsts(*calls, *come(20002)), [0, 2, 1, 2, 1, 1, 2, 1])

    def test_one_that_carries_too_much(self):
        calls = [begin(), *believed(10), *come(20000), *come(20001, carried=[0] * 1473), *come(20002), *takes(1)]
        self.assertEqual(firsts(*calls), [0, 2, 1, 2, 0, 1, -1])

    def test_source_stays(self):
        calls = [begin(), *believed(10), *come(20000, 20001), *come(20002, source=2), *come(20002)]
        self.assertEqual(firsts(*calls), [0, 2, 1, 2, 1, -2, 1])


class Keeping(unittest.TestCase):
    def test_twice_the_same(self):
        calls = [begin(), *believed(5), *come(5, 6, 6, 5), *takes(3)]
        self.assertEqual(firsts(*calls), [0, 2, 1, 0, 1, 0, 0, 0, 0, -1])

    def test_of_two_alike_the_first_stays(self):
        calls = [begin(), *believed(5), *come(6, carried=[1]), *come(6, carried=[2]), *takes(2)]
        self.assertEqual(last(*calls), [1, 1, 6, 0, 0, 0])

    def test_64_wait(self):
        calls = [begin(), *believed(0), *come(*range(1, 64))]
        self.assertEqual(last(*calls), [1])
        self.assertEqual(last(*calls, *come(64)), [0])
        self.assertEqual(firsts(*calls, *come(64), take(), *come(65, 66))[-4:], [0, 0, 1, 0])
        self.assertEqual(firsts(*calls, *come(64), take(), *come(64, 65))[-2:], [1, 0])

    def test_64_wait_and_the_next_one_comes(self):
        calls = [begin(), *believed(0), take(), *come(*range(2, 66)), *come(1)]
        self.assertEqual(last(*calls), [0])
        self.assertEqual(last(*calls, take()), [-2])

    def test_1472_and_1473_bytes_carried(self):
        self.assertEqual(last(begin(), *believed(5), *come(6, carried=[1] * 1472)), [1])
        self.assertEqual(last(begin(), *believed(5), *come(6, carried=[1] * 1473)), [0])

    def test_only_what_is_carried_is_measured(self):
        octets = packet(6, others=[1, 2], extension=([0, 0], [1] * 40), carried=[1] * 1472, padding=[5] * 5)
        self.assertEqual(last(begin(), *believed(5), receive(octets)), [1])
        self.assertEqual(last(begin(), *come(5), receive(octets), take())[0], 1472)

    def test_too_late(self):
        calls = [begin(), *believed(5), *come(6), *takes(2), *come(5, 6, 7)]
        self.assertEqual(firsts(*calls)[-3:], [0, 0, 1])

    def test_one_before_the_first_is_too_late(self):
        self.assertEqual(last(begin(), *believed(5), *come(4)), [0])


if __name__ == "__main__":
    unittest.main()
