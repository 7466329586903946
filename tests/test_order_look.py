"""order and look."""

import unittest

from lines import (ask, ask_one, ask_row, begin, best, come, comes, exchange, leave, look, needs, order, person, row_of,
                   seen, soon, swap, water)

HALF = (0, 1, 2, 3)
SPILLER = (10, 1, 1, 8)
MANY = [(4, 1, 2, 1), (0, 5, 9, 2), (9, 1, 1, 3), (1, 2, 3, 4), (50, 9, 9, 5), (7, 3, 8, 6)]


class Order(unittest.TestCase):
    def check(self, people, measures, amount, wanted):
        self.assertEqual(ask_row(people, [order(measures), look()]), [amount, seen(wanted)])

    def test_of_nobody(self):
        self.assertEqual(ask_row([], [order(0), order(12), order(1000), order(1001), look()]),
                         [[0, 1], [12, 1], [1000, 1], [-1], [0]])

    def test_of_one(self):
        self.check([(3, 2, 3, 9)], 4, [2, 3], [(3, 2, 3, 9)])

    def test_of_two(self):
        self.check([HALF, SPILLER], 100, [45, 1], [SPILLER, HALF])
        self.check([SPILLER, HALF], 100, [45, 1], [SPILLER, HALF])

    def test_an_order_that_is_not_its_own_turning_back(self):
        third = (0, 1, 3, 5)
        self.check([HALF, third, SPILLER], 100, [15, 1], [SPILLER, HALF, third])

    def test_the_last_of_all_orders(self):
        people = [(number, 4 + number, 9, 1) for number in range(6)]
        top, by = ask_one(people, best(1000))[:2]
        self.check(people, 1000, [top, by], people[::-1])

    def test_of_as_good_orders_the_first(self):
        people = [(0, 1, 2, time) for time in (6, 5, 4, 3, 2, 1)]
        self.check(people, 64, [1, 1], people)
        self.check([HALF, SPILLER, (0, 1, 2, 9), (10, 1, 1, 1)], 100, [20, 1], [SPILLER, (10, 1, 1, 1), HALF, (0, 1, 2, 9)])

    def test_where_nothing_comes_nobody_moves(self):
        people = [HALF, SPILLER, (50, 9, 9, 1)]
        self.check(people, 0, [0, 1], people)
        self.check(people, 60, [0, 1], people)

    def test_it_is_what_best_tells(self):
        for measures in (0, 60, 71, 90, 150, 1000):
            told = ask_one(MANY, best(measures))
            self.check(MANY, measures, told[:2], [MANY[number] for number in told[2:]])

    def test_a_second_time_nobody_moves(self):
        given = ask_row(MANY, [order(200), look(), order(200), look(), best(200)])
        self.assertEqual(given[:2], given[2:4])
        self.assertEqual(given[4], given[0] + [0, 1, 2, 3, 4, 5])

    def test_the_edges_of_measures(self):
        self.assertEqual(ask_row([HALF], [order(0), order(1), order(1000), order(1001), order(2000)]),
                         [[0, 1], [1, 2], [500, 1], [-1], [-1]])

    def test_a_refusal_changes_nothing(self):
        self.assertEqual(ask_row([HALF, SPILLER], [look(), order(1001), look(), order(2000), look()]),
                         [seen([HALF, SPILLER]), [-1], seen([HALF, SPILLER]), [-1], seen([HALF, SPILLER])])

    def test_the_calls_behind_it_are_of_the_row_as_it_stands(self):
        calls = [comes(100, [0, 1]), comes(100, [2, 0]), needs(6, [0]), needs(6, [1, 2]), best(30), exchange(300),
                 soon(3), come(200), water(90, 200), leave(0), look(), person(*HALF), swap(0, 1), look()]
        told = ask_one(MANY[:4], best(300))[2:]
        self.assertNotEqual(told, [0, 1, 2, 3])
        given = ask_row(MANY[:4], [order(300)] + calls)[1:]
        self.assertEqual(given, ask_row([MANY[number] for number in told], calls))

    def test_numbers_are_those_of_where_they_stand_then(self):
        self.assertEqual(ask_row([HALF, SPILLER], [comes(100, [0]), order(100), comes(100, [0]), needs(5, [0]),
                                                   water(100, 11), swap(0, 1), water(100, 11), comes(100, [0])]),
                         [[50, 1], [45, 1], [90, 1], [15, 1], [45, 1], [0], [40, 1], [50, 1]])


class Look(unittest.TestCase):
    def test_of_nobody(self):
        self.assertEqual(ask_row([], [look(), look()]), [[0], [0]])

    def test_of_one(self):
        self.assertEqual(ask_one([(50, 8, 9, 49)], look()), [1, 50, 8, 9, 49])

    def test_of_several(self):
        self.assertEqual(ask_one([(0, 1, 2, 3), (4, 5, 6, 7)], look()), [2, 0, 1, 2, 3, 4, 5, 6, 7])
        self.assertEqual(ask_one(MANY, look()), seen(MANY))

    def test_a_by_b_stays_as_it_was_told(self):
        self.assertEqual(ask_one([(0, 6, 9, 1), (0, 9, 9, 1)], look()), [2, 0, 6, 9, 1, 0, 9, 9, 1])

    def test_as_people_come(self):
        self.assertEqual(ask([begin(), look(), person(*HALF), look(), person(*SPILLER), look(), begin(), look()]),
                         [[0], [0], [0], seen([HALF]), [1], seen([HALF, SPILLER]), [0], [0]])


class WhoMovesAndWhoDoesNot(unittest.TestCase):
    def test_questions_move_nobody(self):
        questions = [comes(500, [5, 0, 2]), needs(5, [3, 1]), best(0), best(200), best(1000), exchange(0), exchange(200),
                     exchange(1000), soon(1), soon(1000), come(0), come(100000), water(300, 5000), look()]
        for question in questions:
            self.assertEqual(ask_row(MANY, [question, look()])[1], seen(MANY), question)

    def test_a_refusal_changes_nothing(self):
        refused = [(person(51, 1, 1, 1), -1), (person(0, 2, 1, 1), -1), (person(0, 1, 1, 0), -1), (comes(5, [6]), -2),
                   (comes(5, [1, 1]), -2), (comes(1001, []), -1), (needs(5, [6]), -2), (needs(0, []), -1),
                   (needs(1001, []), -1), (best(1001), -1), (exchange(1001), -1), (soon(0), -1), (soon(1001), -1),
                   (come(100001), -1), (water(1001, 5), -1), (water(5, 100001), -1), (water(1001, 100001), -1),
                   (swap(0, 6), -2), (swap(6, 0), -2), (leave(6), -2), (order(1001), -1)]
        for people in (MANY, MANY[:1], []):
            for call, refusal in refused:
                self.assertEqual(ask_row(people, [look(), call, look()]), [seen(people), [refusal], seen(people)], call)

    def test_a_refusal_of_too_many_or_too_few_changes_nothing(self):
        self.assertEqual(ask_row(MANY, [person(*HALF), look()]), [[-5], seen(MANY)])
        self.assertEqual(ask_row([HALF], [exchange(5), look()]), [[-6], seen([HALF])])
        self.assertEqual(ask_row([], [exchange(5), soon(1), look()]), [[-6], [-6], [0]])

    def test_all_at_once(self):
        given = ask(row_of([HALF, SPILLER]) + [order(100), leave(1), look(), leave(1), order(100), swap(0, 0), look()])
        self.assertEqual(given[3:], [[45, 1], [1], seen([SPILLER]), [-2], [90, 1], [0], seen([SPILLER])])


if __name__ == "__main__":
    unittest.main()
