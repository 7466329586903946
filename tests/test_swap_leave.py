"""swap and leave."""

import unittest

from lines import ask_row, begin, best, come, comes, exchange, leave, look, needs, person, seen, soon, swap, water

P, Q, R, S, T, U = PEOPLE = [(0, 1, 2, 1), (10, 1, 1, 20), (3, 2, 3, 7), (1, 1, 9, 4), (50, 9, 9, 50), (4, 5, 8, 33)]


class Swap(unittest.TestCase):
    def check(self, people, number, other, wanted):
        self.assertEqual(ask_row(people, [swap(number, other), look()]), [[0], seen(wanted)], (number, other))

    def test_of_two(self):
        self.check([P, Q], 0, 1, [Q, P])
        self.check([P, Q], 1, 0, [Q, P])

    def test_next_to_one_another(self):
        self.check([P, Q, R, S], 1, 2, [P, R, Q, S])
        self.check([P, Q, R, S], 3, 2, [P, Q, S, R])

    def test_those_between_stay(self):
        self.check([P, Q, R, S], 0, 2, [R, Q, P, S])
        self.check([P, Q, R, S], 3, 0, [S, Q, R, P])
        self.check(PEOPLE, 0, 5, [U, Q, R, S, T, P])
        self.check(PEOPLE, 4, 1, [P, T, R, S, Q, U])

    def test_one_with_itself(self):
        for number in range(6):
            self.check(PEOPLE, number, number, PEOPLE)
        self.check([P], 0, 0, [P])

    def test_back_again(self):
        self.assertEqual(ask_row([P, Q, R], [swap(0, 2), swap(0, 2), look(), swap(0, 1), swap(1, 2), look()]),
                         [[0], [0], seen([P, Q, R]), [0], [0], seen([Q, R, P])])

    def test_no_such_one(self):
        for number, other in ((0, 2), (2, 0), (2, 2), (1, 9), (9, 1), (9, 9), (2, 3)):
            self.assertEqual(ask_row([P, Q], [swap(number, other), look()]), [[-2], seen([P, Q])], (number, other))

    def test_no_such_one_among_six(self):
        for number, other in ((6, 0), (0, 6), (6, 6), (5, 7)):
            self.assertEqual(ask_row(PEOPLE, [swap(number, other), look()]), [[-2], seen(PEOPLE)], (number, other))

    def test_of_nobody(self):
        self.assertEqual(ask_row([], [swap(0, 0), swap(0, 1), look()]), [[-2], [-2], [0]])


class Leave(unittest.TestCase):
    def check(self, people, number):
        wanted = people[:number] + people[number + 1:]
        self.assertEqual(ask_row(people, [leave(number), look()]), [[len(wanted)], seen(wanted)], number)

    def test_any_of_six(self):
        for number in range(6):
            self.check(PEOPLE, number)

    def test_the_first_and_the_last_of_two(self):
        self.check([P, Q], 0)
        self.check([P, Q], 1)

    def test_the_only_one(self):
        self.assertEqual(ask_row([P], [leave(0), look(), leave(0), come(9), best(5), soon(1), comes(5, [0])]),
                         [[0], [0], [-2], [0], [5, 1], [-6], [-2]])

    def test_one_behind_another(self):
        self.assertEqual(ask_row([P, Q, R, S], [leave(1), leave(1), look(), leave(1), leave(0), look()]),
                         [[3], [2], seen([P, S]), [1], [0], [0]])

    def test_one_of_two_alike(self):
        self.assertEqual(ask_row([P, Q, P], [leave(2), look()]), [[2], seen([P, Q])])
        self.assertEqual(ask_row([P, Q, P], [leave(0), look()]), [[2], seen([Q, P])])

    def test_no_such_one(self):
        for number in (2, 3, 9):
            self.assertEqual(ask_row([P, Q], [leave(number), look()]), [[-2], seen([P, Q])], number)
        self.assertEqual(ask_row(PEOPLE, [leave(6), leave(9), look()]), [[-2], [-2], seen(PEOPLE)])
        self.assertEqual(ask_row([], [leave(0), leave(9), look()]), [[-2], [-2], [0]])

    def test_the_number_of_the_last_is_gone(self):
        self.assertEqual(ask_row([P, Q], [leave(0), leave(1), swap(0, 1), comes(5, [1]), look()]),
                         [[1], [-2], [-2], [-2], seen([Q])])

    def test_somebody_may_come_instead(self):
        self.assertEqual(ask_row(PEOPLE, [person(*P), leave(2), person(*R), person(*P), look()]),
                         [[-5], [5], [5], [-5], seen([P, Q, S, T, U, R])])


class AsTheRowStandsThen(unittest.TestCase):
    CALLS = [comes(90, [0, 1]), comes(90, [1]), needs(6, [0]), needs(6, [1, 0]), best(90), exchange(90), soon(3),
             come(200), water(90, 200), look(), comes(90, [2])]

    def check(self, people, changes, wanted):
        given = ask_row(people, changes + self.CALLS)[len(changes):]
        self.assertEqual(given, ask_row(wanted, self.CALLS))

    def test_behind_swap(self):
        self.check([P, Q, R], [swap(0, 2)], [R, Q, P])
        self.check([P, Q, R], [swap(1, 1)], [P, Q, R])

    def test_behind_leave(self):
        self.check([P, Q, R], [leave(0)], [Q, R])
        self.check([P, Q, R], [leave(2)], [P, Q])
        self.check([P, Q, R], [leave(1), leave(1)], [P])

    def test_behind_several(self):
        self.check([P, Q, R, S], [swap(0, 3), leave(1), swap(1, 0), person(*U)], [R, S, P, U])

    def test_behind_a_refusal(self):
        self.check([P, Q, R], [swap(0, 3), leave(3), swap(9, 9)], [P, Q, R])

    def test_of_a_row_begun_anew(self):
        self.assertEqual(ask_row([P, Q], [swap(0, 1), begin(), swap(0, 1), leave(0), person(*R), leave(0)]),
                         [[0], [0], [-2], [-2], [0], [0]])


if __name__ == "__main__":
    unittest.main()
