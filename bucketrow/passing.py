"""The calls of one list, answered one behind another, about one row of people."""

from bucketrow.bucket import Person
from bucketrow.bucket import all_pairs
from bucketrow.bucket import best_order
from bucketrow.bucket import how_many_come
from bucketrow.bucket import in_lowest_terms
from bucketrow.bucket import moment_of_coming
from bucketrow.bucket import order_as_they_stand
from bucketrow.bucket import order_with_exchanged
from bucketrow.bucket import place_of_best
from bucketrow.bucket import standing_in
from bucketrow.bucket import what_comes
from bucketrow.bucket import what_has_come
from bucketrow.bucket import what_is_needed

BEGIN = 0
PERSON = 1
COMES = 2
NEEDS = 3
BEST = 4
EXCHANGE = 5
SOON = 6
COME = 7
WATER = 8
SWAP = 9
LEAVE = 10
ORDER = 11

# How many whole numbers stand behind the number of each call, ahead of its order.
WHOLE_NUMBERS = (0, 4, 1, 1, 1, 1, 1, 1, 2, 2, 1, 1, 0)

NOT_AS_TOLD = -1
NO_SUCH_ONE = -2
ROW_IS_FULL = -5
TOO_FEW = -6
NO_ROW = -9

MOST_PEOPLE = 6
MOST_MEASURES = 1000
MOST_BUCKETS = 1000
LAST_MOMENT = 100000
MOST_SPILLED = 50
MOST_MOMENTS = 50
MOST_PARTS = 9


def is_as_told(spills, a, b, moments):
    if spills > MOST_SPILLED:
        return False
    if a < 1 or a > b or b > MOST_PARTS:
        return False
    return 1 <= moments <= MOST_MOMENTS


def is_order(order, count):
    told = {}
    for number in order:
        if number >= count or number in told:
            return False
        told[number] = True
    return True


class Line:
    def __init__(self):
        # None as long as no row is begun, since a row of nobody is a row.
        self.people = None

    def begin(self):
        self.people = []
        return [0]

    def person(self, spills, a, b, moments):
        if not is_as_told(spills, a, b, moments):
            return [NOT_AS_TOLD]
        if len(self.people) == MOST_PEOPLE:
            return [ROW_IS_FULL]
        self.people.append(Person(spills, a, b, moments))
        return [len(self.people) - 1]

    def comes(self, measures, order):
        if not is_order(order, len(self.people)):
            return [NO_SUCH_ONE]
        if measures > MOST_MEASURES:
            return [NOT_AS_TOLD]
        return in_lowest_terms(what_comes(self.people, order, measures))

    def needs(self, measures, order):
        if not is_order(order, len(self.people)):
            return [NO_SUCH_ONE]
        if measures == 0 or measures > MOST_MEASURES:
            return [NOT_AS_TOLD]
        return in_lowest_terms(what_is_needed(self.people, order, measures))

    def best(self, measures):
        if measures > MOST_MEASURES:
            return [NOT_AS_TOLD]
        order = best_order(self.people, measures)
        return in_lowest_terms(what_comes(self.people, order, measures)) + order

    def exchange(self, measures):
        if measures > MOST_MEASURES:
            return [NOT_AS_TOLD]
        if len(self.people) < 2:
            return [TOO_FEW]
        pairs = all_pairs(len(self.people))
        orders = [order_with_exchanged(self.people, pair) for pair in pairs]
        place = place_of_best(self.people, orders, measures)
        return in_lowest_terms(what_comes(self.people, orders[place], measures)) + pairs[place]

    def soon(self, k):
        if k == 0 or k > MOST_BUCKETS:
            return [NOT_AS_TOLD]
        if len(self.people) == 0:
            return [TOO_FEW]
        return [moment_of_coming(self.people, k)]

    def come(self, moment):
        if moment > LAST_MOMENT:
            return [NOT_AS_TOLD]
        return [how_many_come(self.people, moment)]

    def water(self, measures, moment):
        if measures > MOST_MEASURES or moment > LAST_MOMENT:
            return [NOT_AS_TOLD]
        return in_lowest_terms(what_has_come(self.people, measures, moment))

    def swap(self, number, other):
        if max(number, other) >= len(self.people):
            return [NO_SUCH_ONE]
        self.people = standing_in(self.people, order_with_exchanged(self.people, [number, other]))
        return [0]

    def leave(self, number):
        if number >= len(self.people):
            return [NO_SUCH_ONE]
        self.people.pop(number)
        return [len(self.people)]

    # The call is order, but so is what comes and needs are handed.
    def reorder(self, measures):
        if measures > MOST_MEASURES:
            return [NOT_AS_TOLD]
        self.people = standing_in(self.people, best_order(self.people, measures))
        return in_lowest_terms(what_comes(self.people, order_as_they_stand(self.people), measures))

    def look(self):
        seen = [len(self.people)]
        for one in self.people:
            seen.extend([one.spills, one.a, one.b, one.moments])
        return seen


def answer_to(line, call):
    number = call[0]
    if number == BEGIN:
        return line.begin()
    if line.people is None:
        return [NO_ROW]
    if number == PERSON:
        return line.person(call[1], call[2], call[3], call[4])
    if number == COMES:
        return line.comes(call[1], call[3:])
    if number == NEEDS:
        return line.needs(call[1], call[3:])
    if number == BEST:
        return line.best(call[1])
    if number == EXCHANGE:
        return line.exchange(call[1])
    if number == SOON:
        return line.soon(call[1])
    if number == COME:
        return line.come(call[1])
    if number == WATER:
        return line.water(call[1], call[2])
    if number == SWAP:
        return line.swap(call[1], call[2])
    if number == LEAVE:
        return line.leave(call[1])
    if number == ORDER:
        return line.reorder(call[1])
    # look is the one that is left.
    return line.look()


def end_of_call(calls, start):
    number = calls[start]
    end = start + 1 + WHOLE_NUMBERS[number]
    if number == COMES or number == NEEDS:
        end = end + 1 + calls[end]
    return end


def answers(calls):
    line = Line()
    given = []
    start = 0
    while start < len(calls):
        end = end_of_call(calls, start)
        answer = answer_to(line, calls[start:end])
        given.append(len(answer))
        given.extend(answer)
        start = end
    return given
