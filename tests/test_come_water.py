"""come and water."""

import unittest

from lines import ask_one, ask_row, begin, come, comes, look, seen, soon, water

HALF = (0, 1, 2, 3)
SPILLER = (10, 1, 1, 8)


def row(times):
    return [(0, 1, 1, time) for time in times]


class Come(unittest.TestCase):
    def check(self, times, counts):
        moments = list(counts)
        self.assertEqual(ask_row(row(times), [come(moment) for moment in moments]),
                         [[counts[moment]] for moment in moments], times)

    def test_of_one(self):
        self.check([7], {0: 0, 1: 0, 6: 0, 7: 1, 8: 1, 13: 1, 14: 2, 15: 2, 70: 10})
        self.check([1], {0: 0, 1: 1, 2: 2, 500: 500})
        self.check([50], {49: 0, 50: 1, 99: 1, 100: 2})

    def test_wherever_the_slowest_stands(self):
        for times in ([9, 2, 4], [2, 9, 4], [2, 4, 9]):
            self.check(times, {0: 0, 9: 0, 14: 0, 15: 1, 16: 1, 23: 1, 24: 2, 25: 2, 32: 2, 33: 3, 95: 9, 96: 10})

    def test_all_as_slow(self):
        self.check([5, 5, 5], {0: 0, 5: 0, 10: 0, 14: 0, 15: 1, 19: 1, 20: 2, 60: 10})

    def test_of_six(self):
        self.check([1, 2, 3, 4, 5, 6], {20: 0, 21: 1, 26: 1, 27: 2, 75: 10})
        self.check([50] * 6, {299: 0, 300: 1, 349: 1, 350: 2})

    def test_by_that_moment_too(self):
        people = row([3, 11, 2])
        for k in (1, 2, 3, 700, 1000):
            moment = ask_one(people, soon(k))[0]
            self.assertEqual(ask_row(people, [come(moment - 1), come(moment), come(moment + 1)]), [[k - 1], [k], [k]])

    def test_the_edges_of_the_moment(self):
        self.assertEqual(ask_row(row([1]), [come(moment) for moment in (0, 99999, 100000, 100001, 200000)]),
                         [[0], [99999], [100000], [-1], [-1]])
        self.assertEqual(ask_row(row([30, 7]), [come(99999), come(100000), come(100001)]), [[3333], [3333], [-1]])

    def test_more_than_a_thousand_come(self):
        self.check([2, 1], {2000: 999, 2003: 1001, 100000: 49999})

    def test_of_nobody(self):
        self.assertEqual(ask_row([], [come(0), come(1), come(100000), come(100001), come(200000)]),
                         [[0], [0], [0], [-1], [-1]])

    def test_what_is_spilled_does_not_count(self):
        self.assertEqual(ask_row([(50, 1, 9, 4), (50, 1, 9, 2)], [come(5), come(6), come(14)]), [[0], [1], [3]])

    def test_asked_twice_it_is_the_same(self):
        self.assertEqual(ask_row(row([4]), [come(9), come(9), come(3), come(9), look()]),
                         [[2], [2], [0], [2], seen(row([4]))])


class Water(unittest.TestCase):
    def test_of_one(self):
        self.assertEqual(ask_row([SPILLER], [water(12, moment) for moment in (0, 7, 8, 15, 16, 800)]),
                         [[0, 1], [0, 1], [2, 1], [2, 1], [4, 1], [200, 1]])

    def test_along_the_row_as_it_stands(self):
        self.assertEqual(ask_row([HALF, SPILLER], [water(100, moment) for moment in (10, 11, 18, 19, 27)]),
                         [[0, 1], [40, 1], [40, 1], [80, 1], [120, 1]])
        self.assertEqual(ask_row([SPILLER, HALF], [water(100, moment) for moment in (10, 11, 18, 19, 27)]),
                         [[0, 1], [45, 1], [45, 1], [90, 1], [135, 1]])

    def test_lowest_terms(self):
        self.assertEqual(ask_row([(0, 1, 6, 1)], [water(1, moment) for moment in range(8)]),
                         [[0, 1], [1, 6], [1, 3], [1, 2], [2, 3], [5, 6], [1, 1], [7, 6]])
        self.assertEqual(ask_row([(0, 6, 9, 1)], [water(1, 1), water(1, 2), water(3, 5)]), [[2, 3], [4, 3], [10, 1]])

    def test_of_six(self):
        people = [(0, 1, 9, 1), (1, 2, 9, 1), (2, 4, 9, 1), (0, 5, 9, 1), (1, 7, 9, 1), (0, 8, 9, 1)]
        self.assertEqual(ask_row(people, [water(1000, 5), water(1000, 6), water(1000, 7), water(1000, 59054)]),
                         [[0, 1], [1670984, 531441], [3341968, 531441], [1670984, 9]])

    def test_nothing_comes(self):
        self.assertEqual(ask_row([(50, 1, 3, 1)], [water(0, 9), water(50, 9), water(51, 9), water(51, 0)]),
                         [[0, 1], [0, 1], [3, 1], [0, 1]])

    def test_of_nobody(self):
        self.assertEqual(ask_row([], [water(0, 0), water(9, 0), water(9, 5), water(1000, 100000)]), [[0, 1]] * 4)

    def test_the_edges_of_measures_and_moment(self):
        wanted = [[0, 1], [0, 1], [500, 1], [50000000, 1], [-1], [-1], [-1], [-1], [-1]]
        told = ((0, 100000), (1000, 0), (1000, 1), (1000, 100000), (1001, 100000), (1000, 100001), (2000, 0), (0, 200000),
                (1001, 100001))
        self.assertEqual(ask_row([(0, 1, 2, 1)], [water(*one) for one in told]), wanted)

    def test_refused_of_nobody_too(self):
        self.assertEqual(ask_row([], [water(1001, 0), water(0, 100001), water(2000, 200000)]), [[-1]] * 3)

    def test_as_many_as_come_says(self):
        people = [(1, 2, 3, 4), (0, 5, 7, 9), (2, 1, 1, 6)]
        each = ask_one(people, comes(60, [0, 1, 2]))
        for moment in (18, 19, 27, 28, 29, 3000, 99999, 100000):
            many = ask_one(people, come(moment))[0]
            top, by = ask_one(people, water(60, moment))
            self.assertEqual(top * each[1], many * each[0] * by, moment)

    def test_behind_a_second_begin(self):
        self.assertEqual(ask_row([HALF], [water(4, 3), begin(), water(4, 3), come(3)]), [[2, 1], [0], [0, 1], [0]])


if __name__ == "__main__":
    unittest.main()
