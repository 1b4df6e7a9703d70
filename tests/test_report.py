"""Promise 4: rp_report."""

import unittest

from latepackets.receiver import Receiver
from tests.helper import (
    SOURCE, ask, begin, believed, big, come, goodbye, heard, hearer, last, packet, part, receive, report, sender, take,
)


def number(octets):
    return int.from_bytes(bytes(octets), "big")


def fields(answer):
    """What the block of an answered report says, field by field."""
    if len(answer) != 33 or answer[0] != 32:
        raise AssertionError(f"no report with a block: {answer}")
    octets = answer[1:]
    return {
        "source": number(octets[8:12]), "share": octets[12], "missing": number(octets[13:16]),
        "greatest": number(octets[16:20]), "jitter": number(octets[20:24]),
        "middle": number(octets[24:28]), "ago": number(octets[28:32]),
    }


def field(name, *calls):
    return fields(last(*calls))[name]


def shares(*calls):
    """The share lost of each report."""
    return [fields(answer)["share"] for call, answer in zip(calls, ask(*calls)) if call[0] == 3]


class WithoutBlock(unittest.TestCase):
    def test_no_source_heard_of(self):
        self.assertEqual(last(begin(own=0x0A0B0C0D), report(5)), [8, 0x80, 0xC9, 0, 1, 0x0A, 0x0B, 0x0C, 0x0D])

    def test_own_source_at_its_edges(self):
        self.assertEqual(last(begin(own=0), report()), [8, 128, 201, 0, 1, 0, 0, 0, 0])
        self.assertEqual(last(begin(own=4294967295), report(4294967295)), [8, 128, 201, 0, 1, 255, 255, 255, 255])

    def test_heard_of_and_not_believed(self):
        calls = [begin(own=7), *come(5, 9, 20), heard(sender()), report()]
        self.assertEqual(last(*calls), [8, 128, 201, 0, 1, 0, 0, 0, 7])

    def test_only_parts_heard(self):
        self.assertEqual(last(begin(own=7), heard(sender()), report()), [8, 128, 201, 0, 1, 0, 0, 0, 7])

    def test_after_a_second_begin(self):
        self.assertEqual(last(begin(own=7), *believed(5), begin(own=9), report()), [8, 128, 201, 0, 1, 0, 0, 0, 9])

    def test_refused_begin_keeps_own_and_block(self):
        calls = [begin(own=7), *believed(5), begin(0, own=9), report()]
        self.assertEqual(last(*calls)[:9], [32, 129, 201, 0, 7, 0, 0, 0, 7])


class WithBlock(unittest.TestCase):
    def test_just_believed(self):
        block = [1, 2, 3, 4, 0, 0, 0, 0] + [0, 0, 0x12, 0x34] + [0] * 12
        self.assertEqual(last(begin(own=7), *believed(0x1234), report(99)), [32, 129, 201, 0, 7, 0, 0, 0, 7] + block)

    def test_each_byte(self):
        source = 0xFEDCBA98
        calls = [begin(own=0x0A0B0C0D), *believed(65000, source=source), *come(1700, source=source)]
        calls += [receive(packet(1701, source=source, time=0), 0x123456), heard(sender(source, 0x51525354), 0x01000000)]
        # Expected are 65000 to 67237, which is 2238; 3 came.
        share = (2238 - 3) * 256 // 2238
        block = [0xFE, 0xDC, 0xBA, 0x98, share] + big(2235, 3) + big(67237, 4) + big(0x12345, 4)
        block += [0x51, 0x52, 0x53, 0x54] + big(0x02030405 - 0x01000000, 4)
        self.assertEqual(last(*calls, report(0x02030405)), [32, 0x81, 0xC9, 0, 7, 0x0A, 0x0B, 0x0C, 0x0D] + block)

    def test_nothing_but_the_share_changes_with_a_report(self):
        calls = [begin(), *believed(5), *come(8, 9), heard(sender(), 3), report(10), report(10)]
        first, second = [fields(answer) for answer in ask(*calls)[-2:]]
        self.assertEqual((first.pop("share"), second.pop("share")), (102, 0))
        self.assertEqual(first, second)

    def test_what_waits_stays(self):
        self.assertEqual(last(begin(), *believed(5, carried=[3]), report(), take()), [1, 3, 5, 0, 0, 0])

    def test_still_reported_after_goodbye(self):
        calls = [begin(), *believed(5), heard(hearer() + goodbye(SOURCE)), report()]
        self.assertEqual(field("source", *calls), SOURCE)


class ShareLost(unittest.TestCase):
    def test_none(self):
        self.assertEqual(shares(begin(), *believed(5), *come(6, 7, 8), report()), [0])

    def test_some(self):
        # The one that numbers begin with is expected too: lost are 1 of 3, 2 of 4, 1 of 5.
        self.assertEqual(shares(begin(), *believed(5), *come(7), report()), [85])
        self.assertEqual(shares(begin(), *believed(5), *come(8), report()), [128])
        self.assertEqual(shares(begin(), *believed(5), *come(6, 7, 9), report()), [51])

    def test_out_of_order_is_not_lost(self):
        self.assertEqual(shares(begin(), *believed(5), *come(8, 7, 6), report()), [0])

    def test_given_up_is_no_other_than_not_come(self):
        calls = [begin(1), *believed(5), *come(7), take(), take(), take(), *come(6), report()]
        self.assertEqual(shares(*calls), [0])

    def test_255_at_most(self):
        calls = [begin(), *believed(5), report(), *come(5 + 2999), report()]
        self.assertEqual(shares(*calls), [0, 255])
        # 254 and 255 of 256 since the last report.
        self.assertEqual(shares(begin(), *believed(5), report(), *come(260, 261), report()), [0, 254])
        self.assertEqual(shares(begin(), *believed(5), report(), *come(261), report()), [0, 255])

    def test_none_expected_since(self):
        self.assertEqual(shares(begin(), *believed(5), *come(8), report(), report()), [128, 0])
        self.assertEqual(shares(begin(), *believed(5), *come(8), report(), *come(6), report()), [128, 0])
        self.assertEqual(shares(begin(), *believed(5), *come(8), report(), *come(8), report()), [128, 0])

    def test_more_came_than_expected(self):
        self.assertEqual(shares(begin(), *believed(5), *come(6, 6), report()), [0])
        self.assertEqual(shares(begin(), *believed(5), *come(8), report(), *come(6, 7, 10), report()), [128, 0])

    def test_as_many_came_as_expected(self):
        self.assertEqual(shares(begin(), *believed(5), *come(7, 7), report()), [0])
        self.assertEqual(shares(begin(), *believed(5), *come(8), report(), *come(6, 10), report()), [128, 0])

    def test_late_one_makes_the_share_less(self):
        # Since the last report 9 to 12 are expected; 12 and the late 6 came.
        self.assertEqual(shares(begin(), *believed(5), *come(8), report(), *come(12, 6), report()), [128, 128])

    def test_since_the_last_report(self):
        calls = [begin(), *believed(5), *come(8), report(), *come(9, 10, 11), report(), *come(13, 14, 16), report()]
        self.assertEqual(shares(*calls), [128, 0, 102])

    def test_report_without_a_block_does_not_count(self):
        calls = [begin(), *come(4), report(), *come(5, 7), report()]
        self.assertEqual(field("share", *calls), 85)

    def test_since_numbers_began_anew(self):
        calls = [begin(), *believed(5), *come(*range(6, 30)), report(), *come(20000, 20001, 20004), report()]
        self.assertEqual(shares(*calls), [0, 128])
        self.assertEqual(shares(*calls, *come(20005, 20007), report()), [0, 128, 85])

    def test_of_two_far_off_the_first_does_not_count(self):
        self.assertEqual(shares(begin(), *believed(5), *come(20000), report(), *come(20001, 20003), report()), [0, 85])

    def test_last_report_behind_a_beginning(self):
        calls = [begin(), *believed(5), *come(20000, 20001, 20004), report(), *come(20005), report()]
        self.assertEqual(shares(*calls), [128, 0])

    def test_across_wrapping(self):
        self.assertEqual(shares(begin(), *believed(65534), *come(1), report(), *come(3), report()), [128, 128])

    def test_others_reports_do_not_count(self):
        calls = [begin(), *believed(5), *come(8), heard(sender()), report()]
        self.assertEqual(shares(*calls), [128])

    def test_second_begin_forgets_the_last_report(self):
        calls = [begin(), *believed(5), *come(6, 7, 8), report(), begin(), *believed(5), *come(8), report()]
        self.assertEqual(shares(*calls), [0, 128])

    def test_refused_begin_keeps_the_last_report(self):
        calls = [begin(), *believed(5), *come(8), report(), begin(33), report()]
        self.assertEqual(shares(*calls), [128, 0])


class Missing(unittest.TestCase):
    def test_in_all(self):
        calls = [begin(), *believed(5), *come(8), report(), *come(9, 11), report()]
        self.assertEqual([fields(answer)["missing"] for answer in ask(*calls) if len(answer) > 1], [2, 3])

    def test_none(self):
        self.assertEqual(field("missing", begin(), *believed(5), *come(7, 6), report()), 0)

    def test_below_0(self):
        self.assertEqual(field("missing", begin(), *believed(5), *come(5), report()), 0xFFFFFF)
        self.assertEqual(field("missing", begin(), *believed(5), *come(*[5] * 258), report()), 0x1000000 - 258)

    def test_old_ones_ahead_of_the_first(self):
        self.assertEqual(field("missing", begin(), *believed(5), *come(4, 3), report()), 0xFFFFFE)

    def test_more_than_two_bytes(self):
        numbers = [2999 * k % 65536 for k in range(1, 51)]
        calls = [begin(), *believed(0), *come(*numbers), report()]
        self.assertEqual(field("missing", *calls), 2999 * 50 + 1 - 51)

    def test_held_within_its_range(self):
        for missing, told in (
            (8388606, 0x7FFFFE), (8388607, 0x7FFFFF), (8388608, 0x7FFFFF), (2 ** 33, 0x7FFFFF),
            (-8388607, 0x800001), (-8388608, 0x800000), (-8388609, 0x800000), (-2 ** 33, 0x800000),
        ):
            with self.subTest(missing=missing):
                receiver = Receiver(0, 1)
                for octets in (packet(4), packet(5)):
                    receiver.receive(octets, 0)
                # As if so many had come, or been jumped over; too many calls to be made here.
                if missing < 0:
                    receiver.counting.came -= missing
                else:
                    receiver.counting.greatest += missing
                self.assertEqual(fields(receiver.report(0))["missing"], told)

    def test_begun_anew(self):
        self.assertEqual(field("missing", begin(), *believed(5), *come(50, 20000, 20001, 20003), report()), 1)


class Greatest(unittest.TestCase):
    def test_not_the_last(self):
        self.assertEqual(field("greatest", begin(), *believed(5), *come(9, 7), report()), 9)

    def test_wrapped(self):
        self.assertEqual(field("greatest", begin(), *believed(65535), report()), 65535)
        self.assertEqual(field("greatest", begin(), *believed(65535), *come(0), report()), 65536)
        self.assertEqual(field("greatest", begin(), *believed(65535), *come(4, 65534), report()), 65540)

    def test_wrapped_several_times(self):
        numbers = [2999 * k % 65536 for k in range(1, 101)]
        self.assertEqual(field("greatest", begin(), *believed(0), *come(*numbers), report()), 299900)

    def test_begun_anew(self):
        self.assertEqual(field("greatest", begin(), *believed(65535), *come(0, 20000, 20001), report()), 20001)

    def test_modulo_2_to_32(self):
        receiver = Receiver(0, 1)
        for octets in (packet(65534), packet(65535)):
            receiver.receive(octets, 0)
        # As if numbers had wrapped 65535 times; too many packets to be sent here.
        receiver.counting.greatest += 65535 * 65536
        receiver.counting.first += 65535 * 65536
        self.assertEqual(fields(receiver.report(0))["greatest"], 4294967295)
        receiver.receive(packet(2), 0)
        after = fields(receiver.report(0))
        self.assertEqual((after["greatest"], after["share"], after["missing"]), (2, 170, 2))


class Jitter(unittest.TestCase):
    def jitter(self, *arrivals):
        calls = [receive(packet(10 + place, time=1000), arrival) for place, arrival in enumerate(arrivals)]
        return field("jitter", begin(), *come(9), *calls, report())

    def test_first_one_only_sets_the_way(self):
        self.assertEqual(self.jitter(777777), 0)

    def test_a_sixteenth_towards_below(self):
        self.assertEqual(self.jitter(500, 515), 0)
        self.assertEqual(self.jitter(500, 516), 1)
        self.assertEqual(self.jitter(500, 531), 1)
        self.assertEqual(self.jitter(500, 532), 2)

    def test_several(self):
        # 160; then 160 + 160 - 10; then 310 + 0 - 19.
        self.assertEqual(self.jitter(500, 660, 500, 500), 291 // 16)

    def test_the_farthest(self):
        self.assertEqual(self.jitter(0, 2147483648), 134217728)
        self.assertEqual(self.jitter(0, 4294967295), 0)
        self.assertEqual(self.jitter(0, 4294967280), 1)

    def test_stays_within_four_bytes(self):
        arrivals = [2147483648 * (place % 2) for place in range(250)]
        kept = 0
        for _ in arrivals[1:]:
            kept = kept + 2147483648 - (kept + 8) // 16
        self.assertEqual(self.jitter(*arrivals), kept // 16)

    def test_old_and_twice_the_same_count(self):
        calls = [begin(), *come(9), receive(packet(10), 0), receive(packet(10), 160), receive(packet(9), 320), report()]
        self.assertEqual(field("jitter", *calls), 310 // 16)

    def test_begun_anew(self):
        calls = [begin(), *come(9), receive(packet(10), 0), receive(packet(11), 1600), *come(20000), report()]
        self.assertEqual(field("jitter", *calls), 100)
        self.assertEqual(field("jitter", *calls, *come(20001), report()), 0)


class SourcesReport(unittest.TestCase):
    def both(self, *calls):
        found = fields(last(*calls))
        return found["middle"], found["ago"]

    def test_without_one(self):
        self.assertEqual(self.both(begin(), *believed(5), report(4294967295)), (0, 0))
        self.assertEqual(self.both(begin(), *believed(5), heard(hearer() + goodbye(SOURCE), 7), report(99)), (0, 0))
        self.assertEqual(self.both(begin(), *believed(5), heard(sender(SOURCE + 1), 7), report(99)), (0, 0))

    def test_middle_of_time_and_how_long_ago(self):
        calls = [begin(), *believed(5), heard(sender(middle=0x11223344), 1000)]
        self.assertEqual(self.both(*calls, report(1000)), (0x11223344, 0))
        self.assertEqual(self.both(*calls, report(66537)), (0x11223344, 65537))
        self.assertEqual(self.both(*calls, report(1001), report(1003)), (0x11223344, 3))

    def test_now_is_less_than_it_was(self):
        calls = [begin(), *believed(5), heard(sender(), 4294967290)]
        self.assertEqual(self.both(*calls, report(5)), (0x11223344, 11))
        self.assertEqual(self.both(*calls, report(4294967289)), (0x11223344, 4294967295))

    def test_noted_at_0(self):
        self.assertEqual(self.both(begin(), *believed(5), heard(sender(middle=0), 0), report(9)), (0, 9))

    def test_the_last_one_counts(self):
        calls = [begin(), *believed(5), heard(sender(middle=1), 10), heard(sender(middle=2), 20), report(25)]
        self.assertEqual(self.both(*calls), (2, 5))
        calls[-1:-1] = [heard(sender(SOURCE + 1, 3), 22), heard(hearer(), 23), heard(sender(middle=4)[:-4], 24)]
        self.assertEqual(self.both(*calls), (2, 5))

    def test_two_in_one(self):
        calls = [begin(), *believed(5), heard(sender(middle=1) + sender(middle=2), 10), report(25)]
        self.assertEqual(self.both(*calls), (2, 15))
        calls = [begin(), *believed(5), heard(sender(middle=1) + sender(SOURCE + 1, 2), 10), report(25)]
        self.assertEqual(self.both(*calls), (1, 15))

    def test_behind_another_part(self):
        octets = hearer() + part(202, [0] * 4) + sender(middle=6) + goodbye(3)
        self.assertEqual(self.both(begin(), *believed(5), heard(octets, 1), report(2)), (6, 1))

    def test_with_blocks_and_padding(self):
        octets = part(200, big(SOURCE, 4) + [1, 2, 3, 4, 5, 6, 7, 8] + [9] * 36, count=1)
        self.assertEqual(self.both(begin(), *believed(5), heard(octets, 1), report(2)), (0x03040506, 1))
        octets = hearer() + sender(middle=6, padding=[0, 0, 0, 4])
        self.assertEqual(self.both(begin(), *believed(5), heard(octets, 1), report(2)), (6, 1))

    def test_before_any_source_is_heard_of(self):
        self.assertEqual(self.both(begin(), heard(sender(), 1), *believed(5), report(2)), (0, 0))

    def test_before_it_is_believed(self):
        self.assertEqual(self.both(begin(), *come(4), heard(sender(), 1), *come(5), report(2)), (0x11223344, 1))

    def test_source_of_number_0(self):
        calls = [begin(), *believed(5, source=0), heard(sender(0, 8), 1), report(2)]
        self.assertEqual(self.both(*calls), (8, 1))
        self.assertEqual(self.both(begin(), heard(sender(0, 8), 1), *believed(5, source=0), report(2)), (0, 0))

    def test_stays_where_numbers_begin_anew(self):
        calls = [begin(), *believed(5), heard(sender(), 1), *come(20000, 20001), report(4)]
        self.assertEqual(self.both(*calls), (0x11223344, 3))
        self.assertEqual(field("greatest", *calls), 20001)

    def test_second_begin_forgets_it(self):
        self.assertEqual(self.both(begin(), *believed(5), heard(sender(), 1), begin(), *believed(5), report(4)), (0, 0))

    def test_refused_begin_keeps_it(self):
        calls = [begin(), *believed(5), heard(sender(), 1), begin(0), report(4)]
        self.assertEqual(self.both(*calls), (0x11223344, 3))


if __name__ == "__main__":
    unittest.main()
