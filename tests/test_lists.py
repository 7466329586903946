"""Whole lists of calls: how they are handed in, and how answers are given back."""

import unittest

from bucketrow.passing import answers
from lines import ask, begin, best, comes, exchange, joined, needs, person, soon

LONG = [0, 1, 10, 1, 2, 5, 1, 0, 2, 3, 4, 2, 30, 2, 1, 0, 3, 5, 1, 0, 4, 40, 5, 40, 6, 3, 2, 9, 1, 2, 1, 60, 1, 1, 1,
        2, 8, 0, 0, 4, 3, 6, 1]
LONG_ANSWERS = [1, 0, 1, 0, 1, 1, 2, 5, 1, 2, 20, 1, 4, 10, 1, 0, 1, 4, 25, 3, 0, 1, 1, 19, 1, -2, 1, -1, 2, 8, 1,
                1, 0, 2, 3, 1, 1, -6]


class Lists(unittest.TestCase):
    def test_each_answer_with_its_count(self):
        self.assertEqual(answers(LONG), LONG_ANSWERS)

    def test_lists_of_one_call(self):
        self.assertEqual(answers([0]), [1, 0])
        self.assertEqual(answers([4, 5]), [1, -9])

    def test_whole_numbers_in_a_list(self):
        given = answers(LONG)
        self.assertIs(type(given), list)
        self.assertEqual({type(number) for number in given}, {int})

    def test_what_is_handed_in_is_as_it_was(self):
        calls = list(LONG)
        answers(calls)
        self.assertEqual(calls, LONG)

    def test_what_is_handed_in_is_not_what_is_given_back(self):
        calls = [0]
        given = answers(calls)
        given.append(5)
        self.assertEqual(calls, [0])
        self.assertEqual(answers(calls), [1, 0])

    def test_a_second_time_is_like_the_first(self):
        self.assertEqual(answers(LONG), answers(LONG))
        answers([0, 1, 0, 1, 1, 1])
        self.assertEqual(answers([6, 1, 0, 6, 1]), [1, -9, 1, 0, 1, -6])
        self.assertEqual(answers(LONG), LONG_ANSWERS)

    def test_begin_a_second_time(self):
        self.assertEqual(ask([begin(), person(0, 1, 1, 4), begin(), begin(), soon(1), person(0, 1, 1, 9), soon(2)]),
                         [[0], [0], [0], [0], [-6], [0], [18]])

    def test_sixty_calls(self):
        calls = [begin()] + [person(3 * k, 9 - k, 9, 1 + k) for k in range(6)] + [best(1000 - k) for k in range(53)]
        given = ask(calls)
        self.assertEqual(given[:7], [[0], [0], [1], [2], [3], [4], [5]])
        self.assertEqual([len(answer) for answer in given[7:]], [8] * 53)

    def test_rows_of_eight_numbers_are_read_whole(self):
        self.assertEqual(ask([begin(), comes(1, [0] * 8), needs(1, [6] * 8), comes(1, [4, 4, 4, 4, 4, 4, 4, 4]), best(2)]),
                         [[0], [-2], [-2], [-2], [2, 1]])


class WithoutARow(unittest.TestCase):
    CALLS = (person(0, 1, 1, 1), person(51, 0, 0, 0), comes(5, []), comes(2000, [0, 0]), needs(5, []), needs(0, [9] * 8),
             best(5), best(1001), exchange(5), exchange(1001), soon(1), soon(0), soon(1001))

    def test_each_call_but_begin_is_refused(self):
        for call in self.CALLS:
            self.assertEqual(answers(call), [1, -9], call)

    def test_none_of_them_begins_a_row(self):
        self.assertEqual(answers(joined(self.CALLS)), [1, -9] * len(self.CALLS))
        self.assertEqual(ask(list(self.CALLS) + [begin(), best(8), soon(1)])[-3:], [[0], [8, 1], [-6]])

    def test_a_row_of_nobody_is_a_row(self):
        for call in self.CALLS:
            self.assertNotEqual(ask([begin(), call])[1], [-9], call)


if __name__ == "__main__":
    unittest.main()
