"""What falls cost that are told, and where marks make them cost least."""

from longwork.checks import is_number
from longwork.errors import BadFalls, BadMarks, BadPrice, BadWeights

MOST_STEPS = 60
MOST_WEIGHT = 99
MOST_FALLS = 20
MOST_PRICE = 999


def check_weights(weights):
    if not isinstance(weights, list):
        raise BadWeights(0)
    for number, weight in enumerate(weights):
        if number == MOST_STEPS or not is_number(weight, 1, MOST_WEIGHT):
            raise BadWeights(number)


def check_falls(falls, steps):
    if not isinstance(falls, list):
        raise BadFalls(0)
    low = 0
    for number, fall in enumerate(falls):
        if number == MOST_FALLS or not is_number(fall, low, steps):
            raise BadFalls(number)
        low = fall


def check_price(price):
    if not is_number(price, 0, MOST_PRICE):
        raise BadPrice("the price is no number from 0 to 999")


def check_marks(marks, steps):
    if not isinstance(marks, list):
        raise BadMarks(0)
    low = 1
    for number, mark in enumerate(marks):
        if not is_number(mark, low, steps - 1):
            raise BadMarks(number)
        low = mark + 1


def done_again(weights, falls, start, stop):
    """What is done again from a mark ahead of start on, by the falls from there up to stop."""
    return sum([sum(weights[start:fall]) for fall in falls if start <= fall < stop])


def cost(weights, falls, price, marks):
    """What is done again by all falls, and all marks' prices, together."""
    check_weights(weights)
    steps = len(weights)
    check_falls(falls, steps)
    check_price(price)
    check_marks(marks, steps)
    again = 0
    # A fall may also be behind the last step, so the last stop is beyond that.
    for start, stop in zip([0] + marks, marks + [steps + 1]):
        again += done_again(weights, falls, start, stop)
    return again + price * len(marks)


def best_behind(start, weights, falls, price, behind):
    """The least (cost, marks) behind a mark ahead of start; behind tells it for all later marks."""
    steps = len(weights)
    choices = [(done_again(weights, falls, start, steps + 1), [])]
    for mark in range(start + 1, steps):
        least, marks = behind[mark]
        choices.append((done_again(weights, falls, start, mark) + price + least, [mark] + marks))
    return min(choices)


def best(weights, falls, price):
    """Tells (the least cost, the least list of marks by which it is so)."""
    check_weights(weights)
    steps = len(weights)
    check_falls(falls, steps)
    check_price(price)
    behind = {}
    # From the end on, as each choice needs what is best behind it; without steps there still is the beginning.
    for start in reversed(range(max(1, steps))):
        behind[start] = best_behind(start, weights, falls, price, behind)
    return behind[0]
