"""What becomes of a bucket on its way along a row: how much comes, in which order, and when."""


class Person:
    def __init__(self, spills, a, b, moments):
        self.spills = spills
        self.a = a
        self.b = b
        self.moments = moments


# Its terms are brought to the lowest only where it is told: they stay small along 6 people.
class Amount:
    def __init__(self, divided, by):
        self.divided = divided
        self.by = by


def greatest_divisor(one, other):
    while other != 0:
        rest = one % other
        one = other
        other = rest
    return one


def in_lowest_terms(amount):
    common = greatest_divisor(amount.divided, amount.by)
    return [amount.divided // common, amount.by // common]


def is_more(one, other):
    return one.divided * other.by > other.divided * one.by


def passed_on(amount, person):
    rest = amount.divided - person.spills * amount.by
    if rest <= 0:
        return Amount(0, 1)
    return Amount(rest * person.a, amount.by * person.b)


# The amount is above 0: of nothing, it would not be one answer alone.
def taken_to_pass_on(amount, person):
    by = amount.by * person.a
    return Amount(amount.divided * person.b + person.spills * by, by)


def what_comes(people, order, measures):
    amount = Amount(measures, 1)
    for number in order:
        amount = passed_on(amount, people[number])
    return amount


def what_is_needed(people, order, measures):
    amount = Amount(measures, 1)
    for number in reversed(order):
        amount = taken_to_pass_on(amount, people[number])
    return amount


def orders_one_longer(orders, count):
    longer = []
    for order in orders:
        for number in range(count):
            if number not in order:
                longer.append(order + [number])
    return longer


# The first order stands first, since of as good ones it counts; so do pairs below.
def all_orders(count):
    orders = [[]]
    for place in range(count):
        orders = orders_one_longer(orders, count)
    return orders


def all_pairs(count):
    pairs = []
    for low in range(count):
        for high in range(low + 1, count):
            pairs.append([low, high])
    return pairs


def order_as_they_stand(people):
    return list(range(len(people)))


def order_with_exchanged(people, pair):
    order = order_as_they_stand(people)
    order[pair[0]] = pair[1]
    order[pair[1]] = pair[0]
    return order


def place_of_best(people, orders, measures):
    best = 0
    most = what_comes(people, orders[0], measures)
    for place, order in enumerate(orders):
        amount = what_comes(people, order, measures)
        # Only what is truly more counts, so that of as good orders the first one stays.
        if is_more(amount, most):
            best = place
            most = amount
    return best


def best_order(people, measures):
    orders = all_orders(len(people))
    return orders[place_of_best(people, orders, measures)]


def standing_in(people, order):
    return [people[number] for number in order]


def slowest_time(people):
    return max([person.moments for person in people])


def moment_of_coming(people, k):
    # Each bucket comes just the slowest one's time behind the one before: whoever is quicker
    # waits for the slowest, or for what the slowest passes on.
    return sum([person.moments for person in people]) + (k - 1) * slowest_time(people)


def how_many_come(people, moment):
    if len(people) == 0:
        return 0
    first = moment_of_coming(people, 1)
    if moment < first:
        return 0
    return 1 + (moment - first) // slowest_time(people)


def what_has_come(people, measures, moment):
    each = what_comes(people, order_as_they_stand(people), measures)
    return Amount(each.divided * how_many_come(people, moment), each.by)
