"""Promise [11]: what falls cost, where marks cost least, and what is refused."""

import itertools
import random
import unittest

from longwork.errors import BadFalls, BadMarks, BadPrice, BadWeights
from longwork.plans import best, cost

NO_NUMBERS = (-1, -99, 10**30, True, False, None, "", "1", [], [1], (), (1,))
NO_LISTS = (None, True, False, 0, 1, -1, "", "12", (), (1,), (1, 2))


def all_marks(steps):
    """All lists of marks that there are."""
    for many in range(max(1, steps)):
        for marks in itertools.combinations(range(1, steps), many):
            yield list(marks)


def cost_by_doing(weights, falls, price, marks):
    """The cost, step by step."""
    paid = 0
    for fall in falls:
        step = fall
        while step > 0 and step not in marks:
            step -= 1
            paid += weights[step]
    for mark in marks:
        paid += price
    return paid


class Cost(unittest.TestCase):
    def test_no_steps(self):
        self.assertEqual(cost([], [], 5, []), 0)
        self.assertEqual(cost([], [0, 0], 5, []), 0)

    def test_no_falls(self):
        self.assertEqual(cost([3, 4, 5], [], 7, []), 0)
        self.assertEqual(cost([3, 4, 5], [], 7, [1]), 7)
        self.assertEqual(cost([3, 4, 5], [], 7, [1, 2]), 14)

    def test_falls_without_marks(self):
        for fall, paid in ((0, 0), (1, 3), (2, 7), (3, 12)):
            self.assertEqual(cost([3, 4, 5], [fall], 100, []), paid)

    def test_falls_behind_marks(self):
        self.assertEqual(cost([3, 4, 5], [0], 10, [1]), 10)
        self.assertEqual(cost([3, 4, 5], [1], 10, [1]), 10)
        self.assertEqual(cost([3, 4, 5], [2], 10, [1]), 14)
        self.assertEqual(cost([3, 4, 5], [3], 10, [1]), 19)
        self.assertEqual(cost([3, 4, 5], [1], 10, [2]), 13)
        self.assertEqual(cost([3, 4, 5], [2], 10, [2]), 10)
        self.assertEqual(cost([3, 4, 5], [3], 10, [2]), 15)
        self.assertEqual(cost([3, 4, 5], [3], 10, [1, 2]), 25)

    def test_several_falls(self):
        self.assertEqual(cost([3, 4, 5], [1, 2, 3], 10, []), 22)
        self.assertEqual(cost([3, 4, 5], [1, 2, 3], 10, [2]), 3 + 0 + 5 + 10)
        self.assertEqual(cost([3, 4, 5], [2, 2, 2], 10, []), 21)
        self.assertEqual(cost([3, 4, 5], [2, 2, 2], 10, [1]), 22)
        self.assertEqual(cost([3, 4, 5], [0, 0, 3, 3], 0, [1]), 18)

    def test_prices(self):
        for price in (0, 1, 998, 999):
            self.assertEqual(cost([9, 9], [2], price, [1]), 9 + price)

    def test_at_the_bounds(self):
        self.assertEqual(cost([99] * 60, [60] * 20, 999, []), 99 * 60 * 20)
        self.assertEqual(cost([99] * 60, [60] * 20, 999, list(range(1, 60))), 99 * 20 + 999 * 59)
        self.assertEqual(cost([1] * 60, [59] * 20, 0, [59]), 0)

    def test_step_by_step(self):
        chance = random.Random(1)
        for case in range(400):
            weights = [chance.randint(1, 99) for step in range(chance.randrange(61))]
            falls = sorted(chance.randint(0, len(weights)) for fall in range(chance.randrange(21)))
            marks = [step for step in range(1, len(weights)) if chance.randrange(4) == 0]
            price = chance.randint(0, 999)
            self.assertEqual(cost(weights, falls, price, marks), cost_by_doing(weights, falls, price, marks))


class Best(unittest.TestCase):
    def test_by_hand(self):
        self.assertEqual(best([], [], 0), (0, []))
        self.assertEqual(best([], [0, 0, 0], 999), (0, []))
        self.assertEqual(best([5], [1], 0), (5, []))
        self.assertEqual(best([5, 6], [2], 4), (10, [1]))
        self.assertEqual(best([5, 6], [2], 6), (11, []))
        self.assertEqual(best([3, 4, 5], [1, 2, 3], 6), (14, [2]))

    def test_the_least_list_of_those_that_cost_so(self):
        # A mark that saves just its price is not kept: nothing is less than any list.
        self.assertEqual(best([5, 6], [2], 5), (11, []))
        # One at 1 and one at 2 save the same, and 1 is less.
        self.assertEqual(best([3, 3, 9], [1, 2], 4), (7, [1]))
        # For nothing, a list that begins with 1 is less than one that begins later.
        self.assertEqual(best([5, 5, 5], [2], 0), (0, [1, 2]))
        self.assertEqual(best([5] * 6, [4], 0), (0, [1, 2, 3, 4]))
        self.assertEqual(best([5] * 6, [], 0), (0, []))
        self.assertEqual(best([5] * 6, [0], 0), (0, []))
        self.assertEqual(best([5] * 6, [6], 0), (5, [1, 2, 3, 4, 5]))

    def among_all(self, weights, falls, price):
        found = [(cost_by_doing(weights, falls, price, marks), marks) for marks in all_marks(len(weights))]
        self.assertEqual(best(weights, falls, price), min(found), (weights, falls, price))

    def test_among_all_lists_of_marks(self):
        for steps in range(5):
            for falls in itertools.combinations_with_replacement(range(steps + 1), 2):
                for weights in itertools.product((1, 3), repeat=steps):
                    for price in (0, 1, 2, 3, 4, 999):
                        self.among_all(list(weights), list(falls), price)

    def test_among_all_lists_of_marks_by_chance(self):
        chance = random.Random(2)
        for case in range(300):
            weights = [chance.choice((1, 1, 2, 3, 50, 99)) for step in range(chance.randrange(9))]
            falls = sorted(chance.randint(0, len(weights)) for fall in range(chance.randrange(6)))
            self.among_all(weights, falls, chance.choice((0, 0, 1, 2, 3, 6, 50, 99, 300, 999)))

    def test_at_the_bounds(self):
        weights = [99] * 60
        falls = list(range(0, 60, 3))
        self.assertEqual(best(weights, falls, 0), (0, list(range(1, 58))))
        self.assertEqual(best(weights, [60] * 20, 999), (99 * 20 + 999, [59]))
        self.assertEqual(best([1] * 60, [60], 999), (60, []))
        for price in (0, 1, 500, 999):
            least, marks = best(weights, falls, price)
            self.assertEqual(cost(weights, falls, price, marks), least)
            for mark in range(1, 60):
                other = sorted({*marks} ^ {mark})
                self.assertGreaterEqual((cost(weights, falls, price, other), other), (least, marks))

    def test_the_kinds_of_what_is_told(self):
        told = best([5, 6], [2], 4)
        self.assertEqual([thing.__class__ for thing in (told, *told)], [tuple, int, list])
        self.assertIs(cost([5, 6], [2], 4, [1]).__class__, int)


class Refused(unittest.TestCase):
    GOOD = ([5, 6, 7], [1, 3], 9, [1, 2])

    def bad(self, at, thing, error, number=None):
        """Of cost, and of best too if that takes it."""
        args = list(self.GOOD)
        args[at] = thing
        for call, many in ((cost, 4), (best, 3)):
            if at < many:
                with self.assertRaises(error, msg=repr(thing)) as caught:
                    call(*args[:many])
                if number is not None:
                    self.assertEqual(caught.exception.number, number, thing)
                    self.assertNotIsInstance(caught.exception.number, bool)

    def test_weights_at_their_bounds(self):
        self.assertEqual(cost([1, 99], [2], 0, []), 100)
        self.assertEqual(cost([1] * 60, [], 0, []), 0)
        self.assertEqual(best([1] * 60, [], 0), (0, []))

    def test_weights(self):
        for thing in NO_NUMBERS + (0, 100, 101, 1000):
            self.bad(0, [thing, 1, 2], BadWeights, 0)
            self.bad(0, [1, 99, thing], BadWeights, 2)
            self.bad(0, [1, thing, thing, 0], BadWeights, 1)
            self.bad(0, [1] * 60 + [thing], BadWeights, 60)
            self.bad(0, [1] * 59 + [thing] + [1] * 5, BadWeights, 59)
        for many in (61, 62, 200):
            self.bad(0, [1] * many, BadWeights, 60)
        for thing in NO_LISTS:
            self.bad(0, thing, BadWeights, 0)

    def test_falls_at_their_bounds(self):
        self.assertEqual(cost([5, 6, 7], [0] * 10 + [3] * 10, 0, []), 180)
        self.assertEqual(best([5, 6, 7], [0] * 20, 0), (0, []))
        self.assertEqual(cost([], [0] * 20, 0, []), 0)

    def test_falls(self):
        for thing in NO_NUMBERS + (4, 5, 60, 99):
            self.bad(1, [thing], BadFalls, 0)
            self.bad(1, [0, 3, thing], BadFalls, 2)
            self.bad(1, [0, thing, thing, 1], BadFalls, 1)
            self.bad(1, [1] * 20 + [thing], BadFalls, 20)
            self.bad(1, [1] * 19 + [thing] + [1] * 5, BadFalls, 19)
        for many in (21, 22, 100):
            self.bad(1, [2] * many, BadFalls, 20)
        for thing in NO_LISTS:
            self.bad(1, thing, BadFalls, 0)

    def test_falls_that_fall(self):
        self.bad(1, [1, 0], BadFalls, 1)
        self.bad(1, [0, 2, 2, 3, 2, 3], BadFalls, 4)
        self.bad(1, [3, 2, 1], BadFalls, 1)
        self.bad(1, [3, 2, 9], BadFalls, 1)
        self.bad(1, [9, 2, 1], BadFalls, 0)

    def test_falls_beyond_no_steps(self):
        for call, more in ((cost, [[]]), (best, [])):
            with self.assertRaises(BadFalls) as caught:
                call([], [0, 1], 0, *more)
            self.assertEqual(caught.exception.number, 1)

    def test_price(self):
        for price in NO_NUMBERS + (1000, 1001):
            self.bad(2, price, BadPrice)
        for price in (0, 999):
            self.assertEqual(cost([5, 6, 7], [], price, [1]), price)
            self.assertEqual(best([5, 6, 7], [], price), (0, []))

    def test_marks_at_their_bounds(self):
        self.assertEqual(cost([5, 6, 7], [], 1, [1, 2]), 2)
        self.assertEqual(cost([5], [], 1, []), 0)
        self.assertEqual(cost([1] * 60, [], 1, list(range(1, 60))), 59)

    def test_marks(self):
        for thing in NO_NUMBERS + (0, 3, 4, 60):
            self.bad(3, [thing], BadMarks, 0)
            self.bad(3, [1, thing], BadMarks, 1)
            self.bad(3, [1, 2, thing], BadMarks, 2)
            self.bad(3, [1, thing, thing, 1], BadMarks, 1)
        for thing in NO_LISTS:
            self.bad(3, thing, BadMarks, 0)

    def test_marks_that_do_not_rise(self):
        self.bad(3, [1, 1], BadMarks, 1)
        self.bad(3, [2, 1], BadMarks, 1)
        self.bad(3, [2, 2, 9], BadMarks, 1)
        self.bad(3, [1, 2, 2], BadMarks, 2)
        self.bad(3, [3, 1, 1], BadMarks, 0)

    def test_marks_where_there_are_no_places(self):
        for weights in ([], [5]):
            for mark in (0, 1):
                with self.assertRaises(BadMarks) as caught:
                    cost(weights, [], 0, [mark])
                self.assertEqual(caught.exception.number, 0)

    def test_what_is_handed_in_first_is_refused_first(self):
        bad = ([5, 0, 6, 7], [1, 2, 1], 1000, [1, 2, 3])
        errors = (BadWeights, BadFalls, BadPrice, BadMarks)
        for call, many in ((cost, 4), (best, 3)):
            for first in range(many):
                for second in range(first, many):
                    args = list(self.GOOD[:many])
                    args[first], args[second] = bad[first], bad[second]
                    self.assertRaises(errors[first], call, *args)
                self.assertRaises(errors[first], call, *(self.GOOD[:first] + bad[first:many]))


if __name__ == "__main__":
    unittest.main()
