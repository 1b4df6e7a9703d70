"""Promise 5: rp_heard."""

import unittest

from tests.helper import (
    SOURCE, ask, begin, believed, big, come, firsts, goodbye, heard, hearer, part, report, sender, told,
)

OTHER = 0x0A0B0C0D


def parts_of(octets):
    return ask(begin(), *come(4), heard(octets))[-1]


def noted(octets):
    """How many parts, and what is noted of them of a source that is heard of: its report's middle, its goodbye."""
    answered = ask(begin(), *believed(5), heard(octets, 1), report(9), told())
    return answered[-3], int.from_bytes(bytes(answered[-2][25:29]), "big"), answered[-1][0]


class OnePart(unittest.TestCase):
    def test_first_is_a_report(self):
        self.assertEqual(parts_of(sender()), [1])
        self.assertEqual(parts_of(hearer()), [1])

    def test_first_is_another(self):
        for kind in (0, 199, 202, 203, 204, 205, 255):
            with self.subTest(kind=kind):
                self.assertEqual(parts_of(part(kind, [0] * 28)), [-1])
                self.assertEqual(parts_of(part(kind, [0] * 28) + hearer()), [-1])

    def test_no_bytes(self):
        self.assertEqual(parts_of([]), [-1])

    def test_another_version(self):
        for first in range(256):
            with self.subTest(first=first):
                right = first // 64 == 2 and first & 32 == 0
                self.assertEqual(parts_of(part(201, [0] * 4 + [7] * 24 * 31, first=first)), [1 if right else -1])

    def test_words_that_follow(self):
        self.assertEqual(parts_of(hearer(words=0)), [-1])
        self.assertEqual(parts_of(hearer(words=1)), [1])
        self.assertEqual(parts_of(hearer(words=2)), [-1])
        self.assertEqual(parts_of(hearer(words=65535)), [-1])
        self.assertEqual(parts_of([128, 201, 0, 0]), [-1])

    def test_words_are_two_bytes(self):
        octets = part(201, [1] * 4 * 259)
        self.assertEqual(octets[2:4], [1, 3])
        self.assertEqual(parts_of(octets), [1])
        self.assertEqual(parts_of(octets[:-4]), [-1])

    def test_fewer_than_8_bytes(self):
        for length in range(8):
            with self.subTest(length=length):
                self.assertEqual(parts_of(hearer()[:length]), [-1])

    def test_cut_short(self):
        for length in range(28):
            self.assertEqual(parts_of(sender()[:length]), [-1])

    def test_more_than_words_may_follow(self):
        self.assertEqual(parts_of(part(200, [0] * 100)), [1])
        self.assertEqual(parts_of(part(201, [0] * 100)), [1])


class SeveralParts(unittest.TestCase):
    def test_each_kind_behind_the_first(self):
        for kind in (200, 201, 202, 203, 204):
            with self.subTest(kind=kind):
                self.assertEqual(parts_of(hearer() + part(kind, [0] * 24)), [2])
                self.assertEqual(parts_of(sender() + part(kind, [0] * 24) + hearer()), [3])

    def test_other_kinds_behind_the_first(self):
        for kind in (0, 72, 199, 205, 255):
            with self.subTest(kind=kind):
                self.assertEqual(parts_of(hearer() + part(kind, [0] * 24)), [-1])
                self.assertEqual(parts_of(sender() + part(kind, [0] * 24) + hearer()), [-1])

    def test_bytes_left(self):
        for length in range(1, 8):
            with self.subTest(length=length):
                self.assertEqual(parts_of(hearer() + hearer()[:length]), [-1])
        self.assertEqual(parts_of(hearer() + [128, 202, 0, 0]), [-1])

    def test_words_of_a_second_part(self):
        self.assertEqual(parts_of(hearer() + part(202, [0] * 4, words=0)), [-1])
        self.assertEqual(parts_of(hearer() + part(202, [0] * 4)), [2])
        self.assertEqual(parts_of(hearer() + part(202, [0] * 4, words=2)), [-1])

    def test_words_of_the_first_may_take_in_the_second(self):
        self.assertEqual(parts_of(hearer(words=3) + hearer()), [1])
        self.assertEqual(parts_of(hearer(words=4) + hearer()), [-1])

    def test_another_version_behind_the_first(self):
        for first in (0, 64, 192):
            self.assertEqual(parts_of(hearer() + part(202, [0] * 4, first=first)), [-1])

    def test_many(self):
        self.assertEqual(parts_of(hearer() * 3000), [3000])
        self.assertEqual(parts_of(hearer() * 3000 + [0]), [-1])

    def test_all_that_bytes_may_have(self):
        self.assertEqual(parts_of(hearer() * 8190 + part(202, [0] * 8)), [8191])
        self.assertEqual(parts_of(hearer() * 8192), [-1])

    def test_counts_of_kinds_without_a_measure(self):
        for kind in (202, 204):
            self.assertEqual(parts_of(hearer() + part(kind, [0] * 4, count=31)), [2])
            self.assertEqual(parts_of(hearer() + part(kind, [0] * 4, count=31, padding=[0, 0, 0, 4])), [2])


class Padding(unittest.TestCase):
    def test_in_the_last(self):
        for kind in (202, 203, 204):
            octets = part(kind, [0] * 4, padding=[0, 0, 0, 4])
            self.assertEqual(parts_of(hearer() + octets), [2])
            self.assertEqual(parts_of(sender() + hearer() + octets), [3])

    def test_in_the_first(self):
        self.assertEqual(parts_of(hearer(padding=[0, 0, 0, 4])), [-1])
        self.assertEqual(parts_of(sender(padding=[0, 0, 0, 4])), [-1])
        self.assertEqual(parts_of(hearer(padding=[0, 0, 0, 4]) + hearer()), [-1])

    def test_in_one_that_is_not_the_last(self):
        padded = part(202, [0] * 4, padding=[0, 0, 0, 4])
        self.assertEqual(parts_of(hearer() + padded + hearer()), [-1])
        self.assertEqual(parts_of(hearer() + padded + padded), [-1])
        self.assertEqual(parts_of(hearer() + padded), [2])

    def test_each_length(self):
        for length in range(256):
            with self.subTest(length=length):
                # 400 bytes are behind the first 8 of it.
                octets = part(202, [0] * 4, padding=[0] * 399 + [length])
                right = length > 0 and length % 4 == 0
                self.assertEqual(parts_of(hearer() + octets), [2 if right else -1])

    def test_just_what_is_behind_the_first_8_bytes(self):
        for words in (1, 2, 30):
            fits = part(202, [0] * 4, padding=[0] * (4 * words - 1) + [4 * words])
            self.assertEqual(parts_of(hearer() + fits), [2])
            above = part(202, [0] * 4, padding=[0] * (4 * words - 1) + [4 * words + 4])
            self.assertEqual(parts_of(hearer() + above), [-1])

    def test_no_byte_behind_the_first_8(self):
        for length in (0, 4, 8):
            self.assertEqual(parts_of(hearer() + part(202, [0, 0, 0, length], first=160)), [-1])

    def test_without_the_bit_its_bytes_say_nothing(self):
        self.assertEqual(parts_of(hearer() + part(202, [0] * 7 + [3])), [2])


class Lengths(unittest.TestCase):
    def test_as_their_count_wants(self):
        for kind, least, each in ((200, 28, 24), (201, 8, 24), (203, 4, 4)):
            for count in (0, 1, 2, 30, 31):
                length = least + each * count
                # One word follows always.
                if length < 8:
                    continue
                with self.subTest(kind=kind, count=count):
                    self.check(kind, count, length)

    def check(self, kind, count, length):
        just = part(kind, [0] * (length - 4), count)
        self.assertEqual(parts_of(hearer() + just), [2])
        self.assertEqual(parts_of(hearer() + just + hearer()), [3])
        self.assertEqual(parts_of(just), [-1 if kind == 203 else 1])
        padding = [0] * 7 + [8]
        self.assertEqual(parts_of(hearer() + part(kind, [0] * (length - 4), count, padding)), [2])
        if length == 8:
            return
        fewer = part(kind, [0] * (length - 8), count)
        self.assertEqual(parts_of(hearer() + fewer), [-1])
        self.assertEqual(parts_of(fewer), [-1])
        self.assertEqual(parts_of(hearer() + part(kind, [0] * (length - 8), count, padding)), [-1])

    def test_goodbye_of_none(self):
        self.assertEqual(parts_of(hearer() + goodbye(count=0)), [-1])
        self.assertEqual(parts_of(hearer() + goodbye(5, count=0)), [2])
        self.assertEqual(parts_of(hearer() + goodbye(5, count=0, padding=[0, 0, 0, 4])), [2])

    def test_goodbye_with_a_reason(self):
        self.assertEqual(noted(hearer() + part(203, big(SOURCE, 4) + [3, 97, 98, 99], 1)), ([2], 0, 1))

    def test_padding_does_not_make_up_the_count(self):
        self.assertEqual(parts_of(hearer() + part(203, [0] * 4, 2, [0, 0, 0, 4])), [-1])
        self.assertEqual(parts_of(hearer() + part(203, [0] * 8, 2, [0, 0, 0, 4])), [2])


class Noted(unittest.TestCase):
    def test_report_of_the_source_and_of_another(self):
        self.assertEqual(noted(sender(middle=5)), ([1], 5, 0))
        self.assertEqual(noted(sender(OTHER, 5)), ([1], 0, 0))

    def test_every_byte_of_the_source(self):
        for place in range(4):
            octets = sender(middle=5)
            octets[4 + place] ^= 128
            self.assertEqual(noted(octets), ([1], 0, 0))
            octets = hearer() + goodbye(SOURCE)
            octets[12 + place] ^= 1
            self.assertEqual(noted(octets), ([2], 0, 0))

    def test_two_one_behind_the_other(self):
        self.assertEqual(noted(sender(middle=5) + sender(middle=6)), ([2], 6, 0))

    def test_only_a_200_tells_time(self):
        for kind in (201, 202, 204):
            self.assertEqual(noted(hearer() + part(kind, sender(middle=5)[4:])), ([2], 0, 0))

    def test_goodbye(self):
        for sources, gone in (
            ((SOURCE,), 1), ((SOURCE, OTHER, 3), 1), ((OTHER, 3, SOURCE), 1), ((OTHER, SOURCE, 3), 1),
            ((OTHER,), 0), ((OTHER, 3), 0), (tuple(range(30)) + (SOURCE,), 1), (tuple(range(31)), 0),
        ):
            with self.subTest(sources=sources):
                self.assertEqual(noted(hearer() + goodbye(*sources)), ([2], 0, gone))

    def test_beyond_its_count(self):
        self.assertEqual(noted(hearer() + goodbye(SOURCE, count=0)), ([2], 0, 0))
        self.assertEqual(noted(hearer() + goodbye(OTHER, SOURCE, count=1)), ([2], 0, 0))
        self.assertEqual(noted(hearer() + goodbye(OTHER, SOURCE, count=2)), ([2], 0, 1))

    def test_beyond_its_count_in_padding(self):
        # A padding of 4 whose bytes are the source's.
        source = 0x01020304
        self.assertEqual(noted(hearer() + goodbye(OTHER, padding=big(source, 4))), ([2], 0, 0))
        self.assertEqual(noted(hearer() + goodbye(source, padding=big(source, 4))), ([2], 0, 1))

    def test_not_astride_two_names(self):
        self.assertEqual(noted(hearer() + part(203, [0, 0] + big(SOURCE, 4) + [0, 0], 2)), ([2], 0, 0))

    def test_only_a_203_says_goodbye(self):
        for kind in (202, 204):
            self.assertEqual(noted(hearer() + part(kind, big(SOURCE, 4), 1)), ([2], 0, 0))
        self.assertEqual(noted(sender()), ([1], 0x11223344, 0))
        self.assertEqual(noted(hearer()), ([1], 0, 0))

    def test_both_at_once(self):
        self.assertEqual(noted(sender(middle=5) + goodbye(SOURCE)), ([2], 5, 1))
        self.assertEqual(noted(hearer() + goodbye(SOURCE) + sender(middle=5)), ([3], 5, 1))

    def test_two_goodbyes(self):
        self.assertEqual(noted(hearer() + goodbye(SOURCE) + goodbye(OTHER)), ([3], 0, 1))

    def test_nothing_is_done_if_a_later_part_is_not_right(self):
        right = sender(middle=5) + goodbye(SOURCE)
        for wrong in (
            [0], [128, 202, 0, 0], part(199, [0] * 4), part(205, [0] * 4), part(202, [0] * 4, first=64),
            part(202, [0] * 4, words=2), part(200, [0] * 20), part(201, [0] * 4, 1), part(203, [0] * 4, 2),
            part(202, [0] * 4, padding=[0, 0, 0, 0]), part(202, [0] * 4, padding=[0, 0, 0, 3]),
            part(202, [0] * 4, padding=[0, 0, 0, 8]), part(202, [0] * 4, padding=[0, 0, 0, 4]) + hearer(),
        ):
            with self.subTest(wrong=wrong):
                self.assertEqual(noted(right + wrong), ([-1], 0, 0))
        self.assertEqual(noted(right + hearer()), ([3], 5, 1))

    def test_nothing_is_done_if_the_first_is_not_right(self):
        self.assertEqual(noted(goodbye(SOURCE) + sender()), ([-1], 0, 0))
        self.assertEqual(noted(sender(padding=[0, 0, 0, 4])), ([-1], 0, 0))
        self.assertEqual(noted(sender() * 2341 + hearer()), ([-1], 0, 0))

    def test_before_any_source_is_heard_of(self):
        calls = [begin(), heard(sender() + goodbye(SOURCE), 1), told(), *believed(5), told()]
        answered = ask(*calls)
        self.assertEqual(answered[1:3], [[2], [-1]])
        self.assertEqual(answered[-1][0], 0)

    def test_does_not_make_a_source_heard_of(self):
        calls = [begin(), heard(sender(OTHER), 1), *believed(5), *come(6, source=OTHER)]
        self.assertEqual(firsts(*calls), [0, 1, 2, 1, -2])

    def test_heard_of_and_not_believed(self):
        calls = [begin(), *come(4), heard(sender(middle=5) + goodbye(SOURCE), 1), told(), *come(5), told(), report(3)]
        answered = ask(*calls)
        self.assertEqual([answered[3][0], answered[5][0]], [1, 1])
        self.assertEqual(answered[-1][-8:], [0, 0, 0, 5, 0, 0, 0, 2])

    def test_refused_before_and_taken_after(self):
        calls = [begin(), *come(4), heard([]), heard(goodbye(SOURCE)), told()]
        calls += [heard(hearer() + goodbye(SOURCE)), told()]
        answered = ask(*calls)
        self.assertEqual(answered[2:4] + [answered[4][0], answered[6][0]], [[-1], [-1], 0, 1])

    def test_packets_go_on(self):
        calls = [begin(), *come(4), heard(sender()), *come(5), heard(hearer() + goodbye(SOURCE)), *come(6)]
        self.assertEqual(firsts(*calls), [0, 2, 1, 1, 2, 1])


if __name__ == "__main__":
    unittest.main()
