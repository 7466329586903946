"""comes and needs."""

import unittest

from lines import ask_one, ask_row, comes, needs

# 20 of 30 are left by the first, and two thirds of that passed on; and so on.
THREE = [(10, 2, 3, 5), (0, 1, 2, 1), (4, 9, 9, 50)]
SIX = [(0, 1, 9, 1), (1, 2, 9, 1), (2, 4, 9, 1), (0, 5, 9, 1), (1, 7, 9, 1), (0, 8, 9, 1)]


class Comes(unittest.TestCase):
    def test_of_one(self):
        self.assertEqual(ask_row([(10, 2, 3, 5)], [comes(30, [0]), comes(40, [0]), comes(11, [0])]),
                         [[40, 3], [20, 1], [2, 3]])

    def test_of_several_by_orders_of_some(self):
        self.assertEqual(ask_row(THREE, [comes(30, [0, 1]), comes(30, [1, 0]), comes(30, [2]), comes(30, [2, 1])]),
                         [[20, 3], [10, 3], [26, 1], [13, 1]])

    def test_of_several_by_orders_of_all(self):
        self.assertEqual(ask_row(THREE, [comes(100, [0, 1, 2]), comes(100, [2, 1, 0]), comes(100, [1, 2, 0])]),
                         [[26, 1], [76, 3], [24, 1]])

    def test_of_six(self):
        self.assertEqual(ask_row([(0, 1, 2, 1)] * 6, [comes(1, range(6)), comes(1000, [5, 4, 3, 2, 1, 0])]),
                         [[1, 64], [125, 8]])

    def test_of_six_with_long_fractions(self):
        self.assertEqual(ask_one(SIX, comes(1000, [5, 4, 3, 2, 1, 0])), [2212694, 531441])

    def test_an_order_of_none(self):
        for people in ([], THREE, SIX):
            self.assertEqual(ask_row(people, [comes(0, []), comes(17, []), comes(1000, [])]),
                             [[0, 1], [17, 1], [1000, 1]])

    def test_just_as_much_as_is_spilled_at_once(self):
        for spills in (1, 20, 50):
            one = [(spills, 3, 4, 1)]
            self.assertEqual(ask_row(one, [comes(spills - 1, [0]), comes(spills, [0]), comes(spills + 1, [0])]),
                             [[0, 1], [0, 1], [3, 4]])

    def test_just_as_much_as_is_spilled_further_on(self):
        people = [(10, 1, 2, 1), (5, 2, 7, 1)]
        self.assertEqual(ask_row(people, [comes(19, [0, 1]), comes(20, [0, 1]), comes(21, [0, 1])]),
                         [[0, 1], [0, 1], [1, 7]])

    def test_a_fraction_that_is_less_than_what_is_spilled(self):
        self.assertEqual(ask_row([(0, 1, 3, 1), (1, 1, 1, 1)], [comes(2, [0, 1]), comes(3, [0, 1]), comes(4, [0, 1])]),
                         [[0, 1], [0, 1], [1, 3]])

    def test_nothing_stays_nothing(self):
        self.assertEqual(ask_row([(0, 5, 9, 1), (50, 1, 9, 1), (0, 1, 1, 1)],
                                 [comes(0, [0]), comes(0, [0, 1, 2]), comes(50, [1, 0]), comes(90, [0, 1, 2])]),
                         [[0, 1]] * 4)

    def test_lowest_terms(self):
        self.assertEqual(ask_row([(0, 6, 9, 1), (0, 4, 8, 1)], [comes(1, [0]), comes(1, [0, 1]), comes(6, [0, 1])]),
                         [[2, 3], [1, 3], [2, 1]])

    def test_the_edges_of_measures(self):
        self.assertEqual(ask_row(THREE, [comes(0, [1]), comes(1, [1]), comes(1000, [1]), comes(1001, [1]),
                                         comes(2000, [1])]),
                         [[0, 1], [1, 2], [500, 1], [-1], [-1]])

    def test_the_edges_of_measures_of_nobody(self):
        self.assertEqual(ask_row([], [comes(1000, []), comes(1001, [])]), [[1000, 1], [-1]])


class Needs(unittest.TestCase):
    def test_of_one(self):
        self.assertEqual(ask_row([(10, 2, 3, 5)], [needs(20, [0]), needs(1, [0]), needs(1000, [0])]),
                         [[40, 1], [23, 2], [1510, 1]])

    def test_of_several_by_orders_of_some(self):
        self.assertEqual(ask_row(THREE, [needs(4, [0, 1]), needs(4, [1, 0]), needs(7, [2]), needs(7, [2, 1])]),
                         [[22, 1], [32, 1], [11, 1], [18, 1]])

    def test_of_several_by_orders_of_all(self):
        self.assertEqual(ask_row(THREE, [needs(26, [0, 1, 2]), needs(24, [1, 2, 0]), needs(1, [2, 1, 0])]),
                         [[100, 1], [100, 1], [27, 1]])

    def test_of_six(self):
        self.assertEqual(ask_row([(0, 2, 3, 1)] * 6, [needs(1, range(6)), needs(64, range(6))]), [[729, 64], [729, 1]])

    def test_an_order_of_none(self):
        for people in ([], THREE, SIX):
            self.assertEqual(ask_row(people, [needs(1, []), needs(17, []), needs(1000, [])]),
                             [[1, 1], [17, 1], [1000, 1]])

    def test_just_so_much_comes_of_it(self):
        for order in ([0], [1, 2], [2, 0, 1]):
            for measures in (1, 5, 30):
                wanted = ask_one(THREE, needs(measures, order))
                if wanted[1] == 1:
                    self.assertEqual(ask_one(THREE, comes(wanted[0], order)), [measures, 1])

    def test_lowest_terms(self):
        self.assertEqual(ask_row([(0, 6, 8, 1), (1, 4, 6, 1)], [needs(1, [0]), needs(9, [0]), needs(2, [0, 1])]),
                         [[4, 3], [12, 1], [16, 3]])

    def test_the_edges_of_measures(self):
        self.assertEqual(ask_row(THREE, [needs(0, [1]), needs(1, [1]), needs(1000, [1]), needs(1001, [1]),
                                         needs(2000, [1])]),
                         [[-1], [2, 1], [2000, 1], [-1], [-1]])

    def test_the_edges_of_measures_of_nobody(self):
        self.assertEqual(ask_row([], [needs(0, []), needs(1, []), needs(1000, []), needs(1001, [])]),
                         [[-1], [1, 1], [1000, 1], [-1]])


class Refused(unittest.TestCase):
    NOT_ORDERS = ([3], [9], [0, 3], [3, 0], [0, 0], [0, 1, 0], [0, 1, 2, 2], [0, 1, 2, 3], [2, 1, 0, 9],
                  [0, 1, 2, 0, 1, 2, 0, 1], [9] * 8, [9, 9])

    def test_one_who_is_not_there_or_is_told_twice(self):
        for call in (comes, needs):
            for order in self.NOT_ORDERS:
                self.assertEqual(ask_one(THREE, call(10, order)), [-2], order)

    def test_of_nobody(self):
        for call in (comes, needs):
            self.assertEqual(ask_row([], [call(10, [0]), call(10, [5, 5])]), [[-2], [-2]])

    def test_the_order_counts_ahead_of_the_measures(self):
        for order in self.NOT_ORDERS:
            for measures in (1001, 2000):
                self.assertEqual(ask_row(THREE, [comes(measures, order), needs(measures, order)]), [[-2], [-2]])
            self.assertEqual(ask_one(THREE, needs(0, order)), [-2])

    def test_nothing_has_changed_behind_a_refusal(self):
        for refused in (comes(5, [7]), needs(5, [1, 1]), comes(1001, [0]), needs(0, [0])):
            given = ask_row(THREE, [comes(100, [0, 1, 2]), refused, comes(100, [0, 1, 2]), needs(26, [0, 1, 2])])
            self.assertEqual([given[0], given[2], given[3]], [[26, 1], [26, 1], [100, 1]])


if __name__ == "__main__":
    unittest.main()
