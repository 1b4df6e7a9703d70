"""Promise 1: rp_begin."""

import unittest

from latepackets.desk import UnknownCall, answers
from tests.helper import ask, begin, believed, come, firsts, last, receive, packet, take, takes, wholes


class Begin(unittest.TestCase):
    def test_depth_within_bounds(self):
        self.assertEqual(answers([0, 5, 1]), [1, 0])
        self.assertEqual(answers([0, 5, 32]), [1, 0])

    def test_depth_out_of_bounds(self):
        for depth in (0, 33, 4294967295):
            with self.subTest(depth=depth):
                self.assertEqual(ask(begin(), begin(depth)), [[0], [-1]])

    def test_own_is_any_number(self):
        for own in (0, 1, 4294967295):
            self.assertEqual(ask(begin(own=own)), [[0]])

    def test_nothing_is_known_at_first(self):
        self.assertEqual(last(begin(), take()), [-1])
        self.assertEqual(last(begin(), *come(0)), [2])

    def test_second_begin_forgets_what_waits(self):
        self.assertEqual(last(begin(), *believed(9), begin(), take()), [-1])

    def test_second_begin_forgets_the_source(self):
        calls = [begin(), *believed(9), begin(), *believed(20, source=77), take(), *come(10)]
        self.assertEqual(ask(*calls), [[0], [2], [1], [0], [2], [1], [0, 20, 0, 0, 0], [-2]])

    def test_second_begin_forgets_belief(self):
        self.assertEqual(last(begin(), *believed(9), begin(), *come(10)), [2])

    def test_second_begin_forgets_a_half_done_wait(self):
        self.assertEqual(last(begin(), *come(9), begin(), *come(10)), [2])

    def test_second_begin_forgets_doubted_numbers(self):
        self.assertEqual(firsts(begin(), *believed(9), *come(9000), begin(), *come(9001)), [0, 2, 1, 2, 0, 2])

    def test_second_begin_sets_depth(self):
        self.assertEqual(last(begin(1), begin(3), *believed(1), take(), *come(3, 4), take()), [-1])
        self.assertEqual(last(begin(3), begin(1), *believed(1), take(), *come(3), take()), [-2])

    def test_refused_begin_does_nothing(self):
        for depth in (0, 33, 4294967295):
            with self.subTest(depth=depth):
                calls = [begin(2), *believed(9), *come(10), begin(depth), take(), *come(11), take(), take(), take()]
                self.assertEqual(wholes(*calls), [9, 10, 11, None])
                self.assertEqual(last(begin(), *believed(9), begin(depth), receive(packet(10, source=77))), [-2])

    def test_refused_begin_keeps_a_half_done_wait(self):
        self.assertEqual(last(begin(), *come(9), begin(0), *come(10)), [1])

    def test_refused_begin_keeps_depth(self):
        for depth in (0, 33):
            calls = [begin(2), *believed(1), *come(3), begin(depth), *takes(2), *come(4), begin(depth), take()]
            self.assertEqual(firsts(*calls), [0, 2, 1, 1, -1, 0, -1, 1, -1, -2])

    def test_unknown_call(self):
        with self.assertRaises(UnknownCall):
            answers([0, 5, 1, 6])


if __name__ == "__main__":
    unittest.main()
