"""Promise 6: rp_told."""

import unittest

from latepackets.receiver import Receiver
from tests.helper import (
    SOURCE, ask, begin, believed, come, goodbye, heard, hearer, last, packet, receive, report, sender, take, takes,
    told,
)

LEAVING = heard(hearer() + goodbye(SOURCE))


class Told(unittest.TestCase):
    def test_the_goodbye_is_answered_first(self):
        calls = [begin(), told(), *come(5), told(), *come(6), told(), LEAVING, told()]
        answered = [answer for call, answer in zip(calls, ask(*calls)) if call == told()]
        believed_told = [SOURCE, 6, 1, 0, 0, 1]
        self.assertEqual(answered, [[-1], [0, SOURCE, 0, 0, 0, 0, 0], [0] + believed_told, [1] + believed_told])

    def test_none_heard_of(self):
        self.assertEqual(last(begin(), told()), [-1])
        self.assertEqual(last(begin(), receive([]), receive(packet(5)[:11]), take(), report(), told()), [-1])
        self.assertEqual(last(begin(), heard(sender()), LEAVING, told()), [-1])

    def test_not_believed(self):
        self.assertEqual(last(begin(), *come(5), told()), [0, SOURCE, 0, 0, 0, 0, 0])
        self.assertEqual(last(begin(), *come(5, 90, 5, 90), told()), [0, SOURCE, 0, 0, 0, 0, 0])
        self.assertEqual(last(begin(), *come(5), LEAVING, told()), [1, SOURCE, 0, 0, 0, 0, 0])

    def test_believed(self):
        self.assertEqual(last(begin(), *believed(5), told()), [0, SOURCE, 5, 1, 0, 0, 1])
        self.assertEqual(last(begin(), *believed(5), *come(6, 8), take(), told()), [0, SOURCE, 8, 3, 1, 0, 2])

    def test_all_fields_at_once(self):
        source = 0xFEDCBA98
        calls = [begin(), *believed(65530, source=source), receive(packet(4, source=source), 16000)]
        calls += [heard(hearer() + goodbye(source)), told()]
        self.assertEqual(last(*calls), [1, source, 65540, 2, 9, 1000, 2])

    def test_source_at_its_edges(self):
        for source in (0, 4294967295):
            self.assertEqual(last(begin(), *come(5, source=source), told())[:2], [0, source])
            self.assertEqual(last(begin(), *believed(5, source=source), told()), [0, source, 5, 1, 0, 0, 1])

    def test_another_source_says_nothing(self):
        self.assertEqual(last(begin(), *believed(5), *come(6, 7, source=9), told()), [0, SOURCE, 5, 1, 0, 0, 1])

    def test_what_is_not_believed_says_nothing(self):
        self.assertEqual(last(begin(), *believed(5), *come(20000), told()), [0, SOURCE, 5, 1, 0, 0, 1])

    def test_does_nothing(self):
        calls = [begin(), *believed(5), *come(8), LEAVING, told(), told(), report(), told()]
        answered = ask(*calls)
        self.assertEqual(answered[-4], [1, SOURCE, 8, 2, 2, 0, 2])
        self.assertEqual([answered[-3], answered[-1]], [answered[-4]] * 2)
        self.assertEqual(answered[-2][13], 128)

    def test_wrapped(self):
        self.assertEqual(last(begin(), *believed(65535), *come(0, 1), told()), [0, SOURCE, 65537, 3, 0, 0, 3])

    def test_modulo_2_to_32(self):
        receiver = Receiver(0, 1)
        for octets in (packet(4), packet(5)):
            receiver.receive(octets, 0)
        # As if so many packets had come; too many to be sent here.
        receiver.counting.first += 2 ** 32
        receiver.counting.greatest += 2 ** 32
        receiver.counting.came += 2 ** 32
        self.assertEqual(receiver.tell()[:4], [0, SOURCE, 5, 1])
        receiver.counting.came -= 2
        self.assertEqual(receiver.tell()[:4], [0, SOURCE, 5, 2 ** 32 - 1])


class Missing(unittest.TestCase):
    def missing(self, *calls):
        return last(begin(), *believed(5), *calls, told())[4]

    def test_some(self):
        self.assertEqual(self.missing(*come(9)), 3)
        self.assertEqual(self.missing(*come(9, 7)), 2)

    def test_below_0(self):
        self.assertEqual(self.missing(*come(5)), 16777215)
        self.assertEqual(self.missing(*come(5, 4, 3)), 16777213)
        self.assertEqual(self.missing(*come(7, 7, 7, 7)), 16777214)

    def test_reports_do_not_change_it(self):
        self.assertEqual(self.missing(*come(9), report(), *come(11)), 4)

    def test_held_within_its_range(self):
        for missing, shown in (
            (8388607, 8388607), (8388608, 8388607), (16777216, 8388607), (-8388608, 8388608), (-8388609, 8388608),
        ):
            receiver = Receiver(0, 1)
            for octets in (packet(4), packet(5)):
                receiver.receive(octets, 0)
            # As if so many had come; too many calls to be made here.
            receiver.counting.came -= missing
            self.assertEqual(receiver.tell()[4], shown)


class Jitter(unittest.TestCase):
    def test_a_sixteenth_towards_below(self):
        for arrival, jitter in ((0, 0), (15, 0), (16, 1), (31, 1), (32, 2), (2 ** 31, 2 ** 27), (2 ** 32 - 32, 2)):
            self.assertEqual(last(begin(), *believed(5), receive(packet(6), arrival), told())[5], jitter)


class Waiting(unittest.TestCase):
    def waiting(self, *calls):
        return last(*calls, told())[6]

    def test_how_many(self):
        calls = [begin(1), *believed(5), *come(6, 6, 9)]
        self.assertEqual(self.waiting(*calls), 3)
        self.assertEqual(self.waiting(*calls, take()), 2)
        self.assertEqual(self.waiting(*calls, *takes(2)), 1)
        # The lost one has never waited.
        self.assertEqual(self.waiting(*calls, *takes(3)), 1)
        self.assertEqual(self.waiting(*calls, *takes(5)), 0)

    def test_64_at_most(self):
        self.assertEqual(self.waiting(begin(), *believed(5), *come(*range(6, 80))), 64)

    def test_what_is_not_kept_does_not_wait(self):
        calls = [begin(), *come(4), *come(5, carried=[0] * 1473)]
        self.assertEqual(last(*calls, told()), [0, SOURCE, 5, 1, 0, 0, 0])


class Goodbye(unittest.TestCase):
    def test_said(self):
        self.assertEqual(last(begin(), *believed(5), LEAVING, told())[0], 1)

    def test_said_by_another(self):
        self.assertEqual(last(begin(), *believed(5), heard(hearer() + goodbye(SOURCE + 1)), told())[0], 0)

    def test_stays_said(self):
        calls = [begin(), *believed(5), LEAVING, *come(6, 7), heard(sender()), take(), report(), told()]
        self.assertEqual(last(*calls)[0], 1)

    def test_before_any_source_is_heard_of(self):
        self.assertEqual(last(begin(), LEAVING, *believed(5), told())[0], 0)

    def test_before_it_is_believed(self):
        self.assertEqual(last(begin(), *come(4), LEAVING, *come(5), told()), [1, SOURCE, 5, 1, 0, 0, 1])


class BegunAnew(unittest.TestCase):
    def test_numbers(self):
        calls = [begin(), *believed(65535), receive(packet(0), 1600), *come(3), LEAVING, *come(20000), told()]
        self.assertEqual(last(*calls)[:5] + last(*calls)[6:], [1, SOURCE, 65539, 3, 2, 3])
        self.assertEqual(last(*calls, *come(20001), told()), [1, SOURCE, 20001, 1, 0, 0, 1])
        self.assertEqual(last(*calls, *come(20001, 20003), told()), [1, SOURCE, 20003, 2, 1, 0, 2])

    def test_second_begin(self):
        calls = [begin(), *believed(5), *come(9), LEAVING, begin(), told()]
        self.assertEqual(last(*calls), [-1])
        self.assertEqual(last(*calls, *come(7), told()), [0, SOURCE, 0, 0, 0, 0, 0])
        self.assertEqual(last(*calls, *believed(7, source=8), told()), [0, 8, 7, 1, 0, 0, 1])

    def test_refused_begin(self):
        for depth in (0, 33, 4294967295):
            calls = [begin(), *believed(5), *come(9), LEAVING, begin(depth), told()]
            self.assertEqual(last(*calls), [1, SOURCE, 9, 2, 3, 0, 2])
            self.assertEqual(last(begin(), begin(depth), told()), [-1])
            self.assertEqual(last(begin(), *come(5), begin(depth), told()), [0, SOURCE, 0, 0, 0, 0, 0])


if __name__ == "__main__":
    unittest.main()
