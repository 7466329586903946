"""The program beside a slow and plain model of the same words, over many made-up lists."""

import random
import unittest
from fractions import Fraction
from itertools import combinations, permutations

from lines import ask, begin, best, comes, exchange, needs, person, soon


def told(fraction):
    return [fraction.numerator, fraction.denominator]


class Model:
    def __init__(self):
        self.row = None

    def answer(self, name, values):
        if name == "begin":
            self.row = []
            return [0]
        if self.row is None:
            return [-9]
        return getattr(self, name)(*values)

    def carried(self, people, measures):
        amount = Fraction(measures)
        for spills, a, b, time in people:
            amount = max(Fraction(0), amount - spills) * Fraction(a, b)
        return amount

    def person(self, spills, a, b, time):
        if spills not in range(51) or a not in range(1, b + 1) or b not in range(1, 10) or time not in range(1, 51):
            return [-1]
        if len(self.row) >= 6:
            return [-5]
        self.row = self.row + [(spills, a, b, time)]
        return [len(self.row) - 1]

    def comes(self, measures, order):
        if len(set(order)) < len(order) or not set(order) <= set(range(len(self.row))):
            return [-2]
        if measures > 1000:
            return [-1]
        return told(self.carried([self.row[number] for number in order], measures))

    def needs(self, measures, order):
        if len(set(order)) < len(order) or not set(order) <= set(range(len(self.row))):
            return [-2]
        if measures not in range(1, 1001):
            return [-1]
        amount = Fraction(measures)
        for number in list(order)[::-1]:
            spills, a, b, time = self.row[number]
            amount = amount / Fraction(a, b) + spills
        people = [self.row[number] for number in order]
        if self.carried(people, amount) != measures:
            raise AssertionError("the model is wrong")
        return told(amount)

    def best(self, measures):
        if measures > 1000:
            return [-1]
        found = [(-self.carried([self.row[number] for number in order], measures), order)
                 for order in permutations(range(len(self.row)))]
        most, order = min(found)
        return told(-most) + list(order)

    def exchange(self, measures):
        if measures > 1000:
            return [-1]
        if len(self.row) < 2:
            return [-6]
        found = []
        for low, high in combinations(range(len(self.row)), 2):
            people = list(self.row)
            people[low], people[high] = people[high], people[low]
            found.append((-self.carried(people, measures), low, high))
        most, low, high = min(found)
        return told(-most) + [low, high]

    def soon(self, k):
        if k not in range(1, 1001):
            return [-1]
        if not self.row:
            return [-6]
        free = [0] * len(self.row)
        for bucket in range(k):
            moment = 0
            for place, one in enumerate(self.row):
                moment = max(moment, free[place]) + one[3]
                free[place] = moment
        return [moment]


WRITERS = {"begin": begin, "person": person, "comes": comes, "needs": needs, "best": best, "exchange": exchange,
           "soon": soon}


def some_person(source):
    if source.random() < 0.1:
        return (source.randrange(100), source.randrange(21), source.randrange(21), source.randrange(100))
    b = source.randint(1, 9)
    return (source.choice((0, 1, 2, 5, 20, 50)), source.randint(1, b), b, source.randint(1, 50))


def some_order(source):
    if source.random() < 0.2:
        return [source.randrange(10) for place in range(source.randint(0, 8))]
    count = source.randint(0, 6)
    return source.sample(range(count), source.randint(0, count))


def some_call(source):
    name = source.choice(("person",) * 5 + ("comes", "needs") * 3 + ("best", "exchange", "soon") * 2)
    measures = source.choice((0, 1, 50, 1000, 1001, 2000, source.randint(0, 300), source.randint(0, 1000)))
    if source.random() < 0.03:
        return "begin", ()
    if name == "person":
        return name, some_person(source)
    if name in ("comes", "needs"):
        return name, (measures, some_order(source))
    return name, (measures,)


class BesideTheModel(unittest.TestCase):
    def test_many_lists(self):
        for seed in range(150):
            source = random.Random(seed)
            calls = [some_call(source) for place in range(source.randint(1, 40))]
            if source.random() < 0.9:
                calls.insert(0, ("begin", ()))
            model = Model()
            wanted = [model.answer(name, values) for name, values in calls]
            given = ask([WRITERS[name](*values) for name, values in calls])
            for call, one, other in zip(calls, given, wanted):
                self.assertEqual(one, other, (seed, call))

    def test_soon_of_every_row_of_a_few_times(self):
        for times in permutations((1, 2, 2, 5, 7)):
            for count in range(1, 6):
                people = [(0, 1, 1, time) for time in times[:count]]
                model = Model()
                model.row = people
                given = ask([begin()] + [person(*one) for one in people] + [soon(k) for k in range(1, 8)])
                self.assertEqual(given[1 + count:], [model.soon(k) for k in range(1, 8)], people)


if __name__ == "__main__":
    unittest.main()
