"""best and exchange."""

import unittest

from lines import ask_one, ask_row, begin, best, comes, exchange, soon

HALF = (0, 1, 2, 1)
SPILLER = (10, 1, 1, 2)


class Best(unittest.TestCase):
    def test_of_nobody(self):
        self.assertEqual(ask_row([], [best(0), best(12), best(1000), best(1001)]), [[0, 1], [12, 1], [1000, 1], [-1]])

    def test_of_one(self):
        self.assertEqual(ask_row([(3, 2, 3, 9)], [best(0), best(3), best(4), best(9)]),
                         [[0, 1, 0], [0, 1, 0], [2, 3, 0], [4, 1, 0]])

    def test_the_row_as_it_stands_may_be_best(self):
        self.assertEqual(ask_one([HALF, SPILLER], best(100)), [45, 1, 1, 0])
        self.assertEqual(ask_one([SPILLER, HALF], best(100)), [45, 1, 0, 1])

    def test_of_several(self):
        self.assertEqual(ask_one([HALF, (0, 1, 3, 1), SPILLER], best(100)), [15, 1, 2, 0, 1])
        self.assertEqual(ask_one([(4, 1, 2, 1), (4, 2, 3, 1), (9, 1, 1, 1)], best(100)), [27, 1, 2, 1, 0])

    def test_of_six(self):
        people = [HALF, (1, 1, 1, 1), HALF, (2, 1, 1, 1), HALF, (3, 1, 1, 1)]
        self.assertEqual(ask_one(people, best(38)), [4, 1, 1, 3, 5, 0, 2, 4])

    def test_the_last_of_all_orders(self):
        # The higher the number, the more is spilled at once, and the less of the rest.
        people = [(number, 4 + number, 9, 1) for number in range(6)]
        self.assertEqual(ask_one(people, best(1000))[2:], [5, 4, 3, 2, 1, 0])

    def test_of_as_good_orders_the_first(self):
        self.assertEqual(ask_one([HALF] * 6, best(64)), [1, 1, 0, 1, 2, 3, 4, 5])
        self.assertEqual(ask_one([HALF, SPILLER, HALF, SPILLER], best(100)), [20, 1, 1, 3, 0, 2])

    def test_where_nothing_comes_the_first_order(self):
        self.assertEqual(ask_row([HALF, SPILLER, (50, 9, 9, 1)], [best(0), best(60)]), [[0, 1, 0, 1, 2]] * 2)

    def test_where_something_comes_by_some_orders_alone(self):
        self.assertEqual(ask_one([HALF, SPILLER], best(11)), [1, 2, 1, 0])

    def test_the_best_order_depends_on_the_measures(self):
        people = [(6, 1, 2, 1), (9, 2, 3, 1)]
        self.assertEqual(ask_row(people, [best(15), best(20), best(1000)]), [[0, 1, 0, 1], [2, 3, 1, 0], [982, 3, 1, 0]])

    def test_the_edges_of_measures(self):
        self.assertEqual(ask_row([HALF], [best(0), best(1), best(1000), best(1001), best(2000)]),
                         [[0, 1, 0], [1, 2, 0], [500, 1, 0], [-1], [-1]])

    def test_nobody_moves(self):
        self.assertEqual(ask_row([HALF, SPILLER], [best(100), best(100), comes(100, [0, 1]), exchange(100), best(1001),
                                                   comes(100, [0, 1])]),
                         [[45, 1, 1, 0], [45, 1, 1, 0], [40, 1], [45, 1, 0, 1], [-1], [40, 1]])


class Exchange(unittest.TestCase):
    def test_of_two(self):
        self.assertEqual(ask_one([HALF, SPILLER], exchange(100)), [45, 1, 0, 1])

    def test_it_may_be_less_than_now(self):
        self.assertEqual(ask_row([SPILLER, HALF], [comes(100, [0, 1]), exchange(100)]), [[45, 1], [40, 1, 0, 1]])
        self.assertEqual(ask_row([SPILLER, (2, 1, 9, 1), (0, 1, 3, 1)], [comes(200, [0, 1, 2]), exchange(200)]),
                         [[188, 27], [184, 27, 1, 2]])

    def test_of_several(self):
        self.assertEqual(ask_one([HALF, (0, 1, 3, 1), SPILLER], exchange(120)), [55, 3, 0, 2])
        self.assertEqual(ask_one([SPILLER, HALF, SPILLER], exchange(100)), [40, 1, 1, 2])
        self.assertEqual(ask_one([SPILLER, HALF, HALF, SPILLER], exchange(100)), [20, 1, 1, 3])

    def test_of_six(self):
        people = [SPILLER, SPILLER, HALF, SPILLER, SPILLER, HALF]
        self.assertEqual(ask_one(people, exchange(200)), [40, 1, 2, 4])

    def test_of_as_good_pairs_the_first(self):
        self.assertEqual(ask_one([HALF] * 6, exchange(64)), [1, 1, 0, 1])
        self.assertEqual(ask_one([SPILLER, HALF, HALF, HALF], exchange(90)), [10, 1, 1, 2])
        self.assertEqual(ask_one([(1, 1, 1, 1), (2, 1, 1, 1), (3, 1, 1, 1)], exchange(10)), [4, 1, 0, 1])

    def test_where_nothing_comes_the_first_pair(self):
        self.assertEqual(ask_row([HALF, SPILLER, (50, 9, 9, 1)], [exchange(0), exchange(60)]), [[0, 1, 0, 1]] * 2)

    def test_one_pair_alone_is_changed(self):
        # The best order of these is 2 0 1, which no one exchange makes.
        people = [(4, 1, 2, 1), (1, 1, 2, 1), (9, 1, 1, 1)]
        self.assertEqual(ask_row(people, [best(100), exchange(100)]), [[85, 4, 2, 0, 1], [41, 2, 0, 2]])

    def test_the_edges_of_measures(self):
        self.assertEqual(ask_row([HALF, HALF], [exchange(0), exchange(1), exchange(1000), exchange(1001),
                                                exchange(2000)]),
                         [[0, 1, 0, 1], [1, 4, 0, 1], [250, 1, 0, 1], [-1], [-1]])

    def test_there_are_not_two(self):
        for people in ([], [HALF]):
            self.assertEqual(ask_row(people, [exchange(0), exchange(1000)]), [[-6], [-6]])

    def test_the_measures_count_ahead_of_that(self):
        for people in ([], [HALF]):
            self.assertEqual(ask_row(people, [exchange(1001), exchange(2000)]), [[-1], [-1]])

    def test_nobody_moves(self):
        people = [HALF, SPILLER, (3, 2, 3, 7)]
        given = ask_row(people, [comes(100, [0, 1, 2]), exchange(100), exchange(100), exchange(1001), best(100),
                                 comes(100, [0, 1, 2]), soon(2)])
        self.assertEqual(given[0], given[5])
        self.assertEqual(given[1], given[2])
        self.assertEqual(given[4], ask_one(people, best(100)))
        self.assertEqual(given[6], [17])

    def test_a_refusal_changes_nothing(self):
        self.assertEqual(ask_row([HALF], [exchange(5), begin(), exchange(5), best(5)]), [[-6], [0], [-6], [5, 1]])


if __name__ == "__main__":
    unittest.main()
