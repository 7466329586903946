"""What becomes of a bucket on its way along a row: how much comes, in which order, and when."""


class Person:
    """Somebody who spills so much at once, passes on a by b of the rest, and takes so many moments."""

    def __init__(self, spills, a, b, moments):
        self.spills = spills
        self.a = a
        self.b = b
        self.moments = moments


class Amount:
    """So many measures: what is divided, by what (above 0), in any terms."""

    def __init__(self, divided, by):
        self.divided = divided
        self.by = by


def greatest_divisor(one, other):
    while other != 0:
        rest = one % other
        one = other
        other = rest
    return one


def in_lowest_terms(amount):
    common = greatest_divisor(amount.divided, amount.by)
    return [amount.divided // common, amount.by // common]


def is_more(one, other):
    return one.divided * other.by > other.divided * one.by


def passed_on(amount, person):
    rest = amount.divided - person.spills * amount.by
    if rest <= 0:
        return Amount(0, 1)
    return Amount(rest * person.a, amount.by * person.b)


def taken_to_pass_on(amount, person):
    """How much somebody must be handed to pass on so much, which is above 0."""
    by = amount.by * person.a
    return Amount(amount.divided * person.b + person.spills * by, by)


def what_comes(people, order, measures):
    amount = Amount(measures, 1)
    for number in order:
        amount = passed_on(amount, people[number])
    return amount


def what_is_needed(people, order, measures):
    amount = Amount(measures, 1)
    for number in reversed(order):
        amount = taken_to_pass_on(amount, people[number])
    return amount


def orders_one_longer(orders, count):
    longer = []
    for order in orders:
        for number in range(count):
            if number not in order:
                longer.append(order + [number])
    return longer


def all_orders(count):
    """Every order of all of so many people, from the first to the last."""
    orders = [[]]
    for place in range(count):
        orders = orders_one_longer(orders, count)
    return orders


def all_pairs(count):
    """Every two of so many people, the lower number first, from the first pair to the last."""
    pairs = []
    for low in range(count):
        for high in range(low + 1, count):
            pairs.append([low, high])
    return pairs


def order_with_exchanged(pair, count):
    order = list(range(count))
    order[pair[0]] = pair[1]
    order[pair[1]] = pair[0]
    return order


def place_of_best(people, orders, measures):
    """Where among these orders the one stands by which the most comes."""
    best = 0
    most = what_comes(people, orders[0], measures)
    for place, order in enumerate(orders):
        amount = what_comes(people, order, measures)
        # Only what is truly more counts, so that of as good orders the first one stays.
        if is_more(amount, most):
            best = place
            most = amount
    return best


def moment_of_coming(people, k):
    """When the k-th bucket comes, of a row of at least one."""
    times = [person.moments for person in people]
    # Each bucket comes just the slowest one's time behind the one before: whoever is quicker
    # waits for the slowest, or for what the slowest passes on.
    return sum(times) + (k - 1) * max(times)
