"""soon."""

import unittest

from lines import ask_row, begin, best, exchange, soon


def row(times):
    return [(0, 1, 1, time) for time in times]


class Soon(unittest.TestCase):
    def check(self, times, moments):
        self.assertEqual(ask_row(row(times), [soon(k) for k in (1, 2, 3, 10)]), [[moment] for moment in moments], times)

    def test_of_one(self):
        self.check([1], [1, 2, 3, 10])
        self.check([7], [7, 14, 21, 70])
        self.check([50], [50, 100, 150, 500])

    def test_the_slowest_first(self):
        self.check([9, 2, 4], [15, 24, 33, 96])

    def test_the_slowest_in_the_middle(self):
        self.check([2, 9, 4], [15, 24, 33, 96])

    def test_the_slowest_last(self):
        self.check([2, 4, 9], [15, 24, 33, 96])

    def test_all_as_slow(self):
        self.check([5, 5, 5], [15, 20, 25, 60])

    def test_of_six(self):
        self.check([1, 2, 3, 4, 5, 6], [21, 27, 33, 75])
        self.check([50] * 6, [300, 350, 400, 750])

    def test_the_edges_of_k(self):
        self.assertEqual(ask_row(row([3, 50, 1]), [soon(k) for k in (0, 1, 2, 999, 1000, 1001, 2000)]),
                         [[-1], [54], [104], [49954], [50004], [-1], [-1]])

    def test_what_is_spilled_does_not_count(self):
        self.assertEqual(ask_row([(50, 1, 9, 4), (50, 1, 9, 2)], [soon(1), soon(3)]), [[6], [14]])

    def test_of_the_row_as_it_stands(self):
        self.assertEqual(ask_row([(0, 1, 2, 3), (9, 1, 1, 8)], [best(50), exchange(50), soon(2)])[2], [19])

    def test_of_nobody(self):
        self.assertEqual(ask_row([], [soon(1), soon(1000)]), [[-6], [-6]])

    def test_k_counts_ahead_of_that(self):
        self.assertEqual(ask_row([], [soon(0), soon(1001), soon(2000)]), [[-1], [-1], [-1]])

    def test_a_refusal_changes_nothing(self):
        self.assertEqual(ask_row(row([4]), [soon(0), soon(1), soon(1001), soon(1), begin(), soon(1), best(3)]),
                         [[-1], [4], [-1], [4], [0], [-6], [3, 1]])


if __name__ == "__main__":
    unittest.main()
