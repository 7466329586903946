"""The program beside a slow and plain model of the same words, over many made-up lists."""

import random
import unittest
from fractions import Fraction
from itertools import combinations, permutations

from lines import (ask, begin, best, come, comes, exchange, leave, look, needs, order, person, row_of, soon, swap,
                   water)


def told(fraction):
    return [fraction.numerator, fraction.denominator]


class Model:
    def __init__(self):
        self.row = None

    def answer(self, name, values):
        if name == "begin":
            self.row = []
            return [0]
        if self.row is None:
            return [-9]
        return getattr(self, name)(*values)

    def carried(self, people, measures):
        amount = Fraction(measures)
        for spills, a, b, time in people:
            amount = max(Fraction(0), amount - spills) * Fraction(a, b)
        return amount

    def person(self, spills, a, b, time):
        if spills not in range(51) or a not in range(1, b + 1) or b not in range(1, 10) or time not in range(1, 51):
            return [-1]
        if len(self.row) >= 6:
            return [-5]
        self.row = self.row + [(spills, a, b, time)]
        return [len(self.row) - 1]

    def comes(self, measures, order):
        if len(set(order)) < len(order) or not set(order) <= set(range(len(self.row))):
            return [-2]
        if measures > 1000:
            return [-1]
        return told(self.carried([self.row[number] for number in order], measures))

    def needs(self, measures, order):
        if len(set(order)) < len(order) or not set(order) <= set(range(len(self.row))):
            return [-2]
        if measures not in range(1, 1001):
            return [-1]
        amount = Fraction(measures)
        for number in list(order)[::-1]:
            spills, a, b, time = self.row[number]
            amount = amount / Fraction(a, b) + spills
        people = [self.row[number] for number in order]
        if self.carried(people, amount) != measures:
            raise AssertionError("the model is wrong")
        return told(amount)

    def best(self, measures):
        if measures > 1000:
            return [-1]
        found = [(-self.carried([self.row[number] for number in order], measures), order)
                 for order in permutations(range(len(self.row)))]
        most, order = min(found)
        return told(-most) + list(order)

    def exchange(self, measures):
        if measures > 1000:
            return [-1]
        if len(self.row) < 2:
            return [-6]
        found = []
        for low, high in combinations(range(len(self.row)), 2):
            people = list(self.row)
            people[low], people[high] = people[high], people[low]
            found.append((-self.carried(people, measures), low, high))
        most, low, high = min(found)
        return told(-most) + [low, high]

    def soon(self, k):
        if k not in range(1, 1001):
            return [-1]
        if not self.row:
            return [-6]
        free = [0] * len(self.row)
        for bucket in range(k):
            moment = self.next_coming(free)
        return [moment]

    def next_coming(self, free):
        """When the next bucket comes; free tells from when on each may take one."""
        moment = 0
        for place, one in enumerate(self.row):
            moment = max(moment, free[place]) + one[3]
            free[place] = moment
        return moment

    def come(self, moment):
        if moment > 100000:
            return [-1]
        count = 0
        free = [0] * len(self.row)
        while self.row and self.next_coming(free) <= moment:
            count += 1
        return [count]

    def water(self, measures, moment):
        if measures > 1000 or moment > 100000:
            return [-1]
        return told(self.come(moment)[0] * self.carried(self.row, measures))

    def swap(self, number, other):
        if {number, other} - set(range(len(self.row))):
            return [-2]
        row = dict(enumerate(self.row))
        row[number], row[other] = row[other], row[number]
        self.row = [row[place] for place in range(len(row))]
        return [0]

    def leave(self, number):
        if number not in range(len(self.row)):
            return [-2]
        self.row = self.row[:number] + self.row[number + 1:]
        return [len(self.row)]

    def order(self, measures):
        answer = self.best(measures)
        if answer == [-1]:
            return answer
        self.row = [self.row[number] for number in answer[2:]]
        return answer[:2]

    def look(self):
        return [len(self.row)] + [number for one in self.row for number in one]


WRITERS = {"begin": begin, "person": person, "comes": comes, "needs": needs, "best": best, "exchange": exchange,
           "soon": soon, "come": come, "water": water, "swap": swap, "leave": leave, "order": order, "look": look}

NAMES = (("person",) * 7 + ("comes", "needs") * 3 + ("best", "exchange", "soon", "come", "water", "swap", "look") * 2
         + ("leave", "order"))


def some_person(source):
    if source.random() < 0.1:
        return (source.randrange(100), source.randrange(21), source.randrange(21), source.randrange(100))
    b = source.randint(1, 9)
    return (source.choice((0, 1, 2, 5, 20, 50)), source.randint(1, b), b, source.randint(1, 50))


def some_order(source):
    if source.random() < 0.2:
        return [source.randrange(10) for place in range(source.randint(0, 8))]
    count = source.randint(0, 6)
    return source.sample(range(count), source.randint(0, count))


def some_moment(source):
    return source.choice((0, 1, 100001, 200000, source.randint(0, 60), source.randint(0, 300), source.randint(0, 3000)))


def some_number(source):
    return source.randrange(10) if source.random() < 0.2 else source.randrange(5)


def some_call(source):
    name = source.choice(NAMES)
    measures = source.choice((0, 1, 50, 1000, 1001, 2000, source.randint(0, 300), source.randint(0, 1000)))
    if source.random() < 0.03:
        return "begin", ()
    if name == "person":
        return name, some_person(source)
    if name in ("comes", "needs"):
        return name, (measures, some_order(source))
    if name == "come":
        return name, (some_moment(source),)
    if name == "water":
        return name, (measures, some_moment(source))
    if name == "swap":
        return name, (some_number(source), some_number(source))
    if name == "leave":
        return name, (some_number(source),)
    if name == "look":
        return name, ()
    return name, (measures,)


class BesideTheModel(unittest.TestCase):
    def check(self, calls, seed):
        model = Model()
        wanted = [model.answer(name, values) for name, values in calls]
        given = ask([WRITERS[name](*values) for name, values in calls])
        for call, one, other in zip(calls, given, wanted):
            self.assertEqual(one, other, (seed, call))

    def test_many_lists(self):
        for seed in range(200):
            source = random.Random(seed)
            calls = [some_call(source) for place in range(source.randint(1, 40))]
            if source.random() < 0.9:
                calls.insert(0, ("begin", ()))
            self.check(calls, seed)

    def test_a_look_behind_each_call(self):
        for seed in range(200, 300):
            source = random.Random(seed)
            calls = [("begin", ())] + [("person", some_person(source)) for place in range(source.randint(0, 7))]
            for place in range(source.randint(1, 26)):
                calls = calls + [some_call(source), ("look", ())]
            self.check(calls, seed)

    def test_moments_of_every_row_of_a_few_times(self):
        for times in permutations((1, 2, 2, 5, 7)):
            for count in range(1, 6):
                people = [(0, 1, 1, time) for time in times[:count]]
                model = Model()
                model.row = people
                given = ask(row_of(people) + [soon(k) for k in range(1, 8)] + [come(moment) for moment in range(40)])
                self.assertEqual(given[1 + count:], [model.soon(k) for k in range(1, 8)]
                                 + [model.come(moment) for moment in range(40)], people)

    def test_the_last_moments(self):
        for times in ((1,), (3, 2), (50, 1, 50), (2, 9, 4, 9), (1, 2, 3, 4, 5, 6)):
            people = [(time, 3, 4, time) for time in times]
            model = Model()
            model.row = people
            given = ask(row_of(people) + [come(99999), come(100000), water(1000, 100000)])
            self.assertEqual(given[1 + len(people):], [model.come(99999), model.come(100000), model.water(1000, 100000)])


if __name__ == "__main__":
    unittest.main()
