"""begin and person."""

import unittest

from lines import ask, ask_one, ask_row, begin, best, comes, person, row_of, soon

GOOD = (0, 1, 1, 1)


class Begin(unittest.TestCase):
    def test_answers_0(self):
        self.assertEqual(ask([begin()]), [[0]])

    def test_is_a_row_of_nobody(self):
        self.assertEqual(ask([begin(), best(7), comes(7, []), comes(7, [0]), soon(1)]),
                         [[0], [7, 1], [7, 1], [-2], [-6]])

    def test_comes_instead_of_what_there_was(self):
        given = ask(row_of([(5, 1, 2, 3), (1, 2, 3, 4)]) + [soon(1), begin(), best(9), soon(1), person(*GOOD), soon(1)])
        self.assertEqual(given, [[0], [0], [1], [7], [0], [9, 1], [-6], [0], [1]])


class PersonAsTold(unittest.TestCase):
    def test_answers_numbers_from_0_on(self):
        self.assertEqual(ask(row_of([GOOD] * 6)), [[0], [0], [1], [2], [3], [4], [5]])

    def test_a_seventh_is_refused(self):
        self.assertEqual(ask_row([GOOD] * 6, [person(*GOOD), soon(1), comes(3, [6])]), [[-5], [6], [-2]])

    def test_the_last_comer_stands_behind(self):
        self.assertEqual(ask_row([(10, 1, 1, 1), (0, 1, 2, 1)], [comes(30, [0]), comes(30, [1]), comes(30, [0, 1])]),
                         [[20, 1], [15, 1], [10, 1]])


class PersonEdges(unittest.TestCase):
    def check(self, one, taken):
        self.assertEqual(ask([begin(), person(*one)])[1], [0] if taken else [-1], one)

    def test_spills(self):
        for spills, taken in ((0, True), (1, True), (49, True), (50, True), (51, False), (99, False)):
            self.check((spills, 1, 1, 1), taken)

    def test_a_and_b(self):
        for a in range(21):
            for b in range(21):
                self.check((0, a, b, 1), 1 <= a <= b <= 9)

    def test_time(self):
        for time, taken in ((0, False), (1, True), (49, True), (50, True), (51, False), (99, False)):
            self.check((0, 1, 1, time), taken)


class PersonRefused(unittest.TestCase):
    WRONG = ((51, 1, 1, 1), (0, 0, 1, 1), (0, 0, 0, 1), (0, 1, 0, 1), (0, 1, 10, 1), (0, 10, 10, 1), (0, 3, 2, 1),
             (0, 1, 1, 0), (0, 1, 1, 51), (99, 20, 0, 99))

    def test_a_wrong_seventh_is_refused_as_wrong(self):
        for one in self.WRONG:
            self.assertEqual(ask_one([GOOD] * 6, person(*one)), [-1], one)

    def test_nobody_came_behind_a_refusal(self):
        for one in self.WRONG:
            given = ask_row([(1, 1, 2, 3)], [person(*one), soon(2), best(5), comes(5, [1]), person(2, 1, 1, 4), soon(2)])
            self.assertEqual(given, [[-1], [6], [2, 1, 0], [-2], [1], [11]], one)


if __name__ == "__main__":
    unittest.main()
