"""Whole lists of calls: how they are handed in, and how answers are given back."""

import io
import unittest
from contextlib import redirect_stderr, redirect_stdout

from bucketrow.passing import answers
from lines import (ask, begin, best, come, comes, exchange, joined, leave, look, needs, order, person, row_of, seen, soon,
                   swap, water)

LONG = [0, 1, 10, 1, 2, 5, 1, 0, 2, 3, 4, 2, 30, 2, 1, 0, 3, 5, 1, 0, 4, 40, 5, 40, 6, 3, 2, 9, 1, 2, 1, 60, 1, 1, 1,
        2, 8, 0, 0, 4, 3, 6, 1]
LONG_ANSWERS = [1, 0, 1, 0, 1, 1, 2, 5, 1, 2, 20, 1, 4, 10, 1, 0, 1, 4, 25, 3, 0, 1, 1, 19, 1, -2, 1, -1, 2, 8, 1,
                1, 0, 2, 3, 1, 1, -6]

HALF = (0, 1, 2, 3)
SPILLER = (10, 1, 1, 8)

# Each call, as it is written in numbers, and its answer.
EVERY_CALL = (
    ([12], [-9]), ([0], [0]), ([1, 0, 1, 2, 3], [0]), ([1, 10, 1, 1, 8], [1]), ([12], [2, 0, 1, 2, 3, 10, 1, 1, 8]),
    ([2, 100, 2, 0, 1], [40, 1]), ([3, 5, 1, 1], [15, 1]), ([4, 100], [45, 1, 1, 0]), ([5, 100], [45, 1, 0, 1]),
    ([6, 2], [19]), ([7, 18], [1]), ([7, 19], [2]), ([8, 100, 19], [80, 1]), ([11, 100], [45, 1]),
    ([12], [2, 10, 1, 1, 8, 0, 1, 2, 3]), ([8, 100, 19], [90, 1]), ([9, 0, 1], [0]), ([2, 100, 1, 0], [50, 1]),
    ([10, 0], [1]), ([12], [1, 10, 1, 1, 8]), ([6, 1], [8]), ([10, 1], [-2]), ([5, 3], [-6]), ([0], [0]), ([12], [0]),
    ([7, 5], [0]), ([8, 5, 5], [0, 1]), ([11, 5], [5, 1]), ([9, 0, 0], [-2]), ([10, 0], [-2]), ([6, 9], [-6]))


class Unchanging(list):
    """A list that bears no change, not for a while either."""

    def refuse(self, *values, **named):
        raise AssertionError("what is handed in is changed")

    append = clear = extend = insert = pop = remove = reverse = sort = refuse
    __setitem__ = __delitem__ = __iadd__ = __imul__ = refuse


class Lists(unittest.TestCase):
    def test_each_answer_with_its_count(self):
        self.assertEqual(answers(LONG), LONG_ANSWERS)

    def test_every_call(self):
        wanted = joined([[len(answer)] + answer for call, answer in EVERY_CALL])
        self.assertEqual(answers(joined([call for call, answer in EVERY_CALL])), wanted)

    def test_every_call_a_second_time_in_one_list(self):
        # Without the look ahead of all, which would find a row the second time.
        calls = [call for call, answer in EVERY_CALL[1:]]
        wanted = [answer for call, answer in EVERY_CALL[1:]]
        self.assertEqual(ask(calls + calls), wanted + wanted)

    def test_what_is_handed_in_bears_no_change(self):
        calls = joined([call for call, answer in EVERY_CALL])
        self.assertEqual(answers(Unchanging(calls)), answers(calls))

    def test_every_call_leaves_the_list_as_it_was(self):
        calls = joined([call for call, answer in EVERY_CALL])
        before = list(calls)
        given = answers(calls)
        self.assertEqual(calls, before)
        self.assertEqual(answers(calls), given)
        self.assertEqual({type(number) for number in given}, {int})

    def test_nothing_is_printed(self):
        out = io.StringIO()
        with redirect_stdout(out), redirect_stderr(out):
            answers(joined([call for call, answer in EVERY_CALL]))
        self.assertEqual(out.getvalue(), "")

    def test_nothing_is_kept_of_rows_that_were_moved(self):
        first = row_of([HALF, SPILLER]) + [look(), order(100), look(), leave(1), swap(0, 0), look()]
        given = ask(first)
        self.assertEqual(given[3:], [seen([HALF, SPILLER]), [45, 1], seen([SPILLER, HALF]), [1], [0], seen([SPILLER])])
        self.assertEqual(ask([look(), begin(), look()]), [[-9], [0], [0]])
        self.assertEqual(ask(first), given)

    def test_lists_of_one_call(self):
        self.assertEqual(answers([0]), [1, 0])
        self.assertEqual(answers([4, 5]), [1, -9])

    def test_whole_numbers_in_a_list(self):
        given = answers(LONG)
        self.assertIs(type(given), list)
        self.assertEqual({type(number) for number in given}, {int})

    def test_what_is_handed_in_is_as_it_was(self):
        calls = list(LONG)
        answers(calls)
        self.assertEqual(calls, LONG)

    def test_what_is_handed_in_is_not_what_is_given_back(self):
        calls = [0]
        given = answers(calls)
        given.append(5)
        self.assertEqual(calls, [0])
        self.assertEqual(answers(calls), [1, 0])

    def test_a_second_time_is_like_the_first(self):
        self.assertEqual(answers(LONG), answers(LONG))
        answers([0, 1, 0, 1, 1, 1])
        self.assertEqual(answers([6, 1, 0, 6, 1]), [1, -9, 1, 0, 1, -6])
        self.assertEqual(answers(LONG), LONG_ANSWERS)

    def test_begin_a_second_time(self):
        self.assertEqual(ask([begin(), person(0, 1, 1, 4), begin(), begin(), soon(1), person(0, 1, 1, 9), soon(2)]),
                         [[0], [0], [0], [0], [-6], [0], [18]])

    def test_sixty_calls(self):
        calls = [begin()] + [person(3 * k, 9 - k, 9, 1 + k) for k in range(6)] + [best(1000 - k) for k in range(53)]
        given = ask(calls)
        self.assertEqual(given[:7], [[0], [0], [1], [2], [3], [4], [5]])
        self.assertEqual([len(answer) for answer in given[7:]], [8] * 53)

    def test_sixty_of_the_longest_calls(self):
        calls = joined([begin()] + [needs(2000, [9] * 8)] * 59)
        self.assertEqual(answers(calls), [1, 0] + [1, -2] * 59)

    def test_sixty_looks_and_orders(self):
        people = [(3 * k, 9 - k, 9, 1 + k) for k in range(6)]
        given = ask(row_of(people) + [order(1000 - k) for k in range(52)] + [look()])
        self.assertEqual({len(answer) for answer in given[7:-1]}, {2})
        self.assertEqual(given[-1][0], 6)
        self.assertEqual(sorted(given[-1][4::4]), [1, 2, 3, 4, 5, 6])

    def test_rows_of_eight_numbers_are_read_whole(self):
        self.assertEqual(ask([begin(), comes(1, [0] * 8), needs(1, [6] * 8), comes(1, [4, 4, 4, 4, 4, 4, 4, 4]), best(2)]),
                         [[0], [-2], [-2], [-2], [2, 1]])


class WithoutARow(unittest.TestCase):
    CALLS = (person(0, 1, 1, 1), person(51, 0, 0, 0), comes(5, []), comes(2000, [0, 0]), needs(5, []), needs(0, [9] * 8),
             best(5), best(1001), exchange(5), exchange(1001), soon(1), soon(0), soon(1001), come(5), come(100001),
             water(5, 5), water(1001, 100001), swap(0, 0), swap(0, 9), leave(0), leave(9), order(5), order(1001), look())

    def test_each_call_but_begin_is_refused(self):
        for call in self.CALLS:
            self.assertEqual(answers(call), [1, -9], call)

    def test_none_of_them_begins_a_row(self):
        self.assertEqual(answers(joined(self.CALLS)), [1, -9] * len(self.CALLS))
        self.assertEqual(ask(list(self.CALLS) + [look(), begin(), look(), best(8), soon(1)])[-5:],
                         [[-9], [0], [0], [8, 1], [-6]])

    def test_a_row_of_nobody_is_a_row(self):
        for call in self.CALLS:
            self.assertNotEqual(ask([begin(), call])[1], [-9], call)


if __name__ == "__main__":
    unittest.main()
