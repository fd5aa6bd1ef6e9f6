"""What the document promises over the whole program."""

import unittest
from fractions import Fraction
from itertools import combinations, product

from meanblend.blending import (
    cheapest_blend, check_blend, cost_without_component, dual_bound, max_quantity, property_range,
)
from tests import oracle

KINDS = [(0, 1, 2), (1, 3, 0), (2, 1, 5), (2, 2, 1), (1, 0, 4), (3, 4, 2)]
BOUNDS = [(0, 1), (1, 1), (1, 3), (2, 2), (2, 4), (3, 9), (5, 5)]


def small_components():
    """All kinds in all orders up to two components; beyond, each choice of kinds there and back."""
    for count in range(3):
        for parts in product(KINDS, repeat=count):
            yield [number for part in parts for number in part]
    for count in (3, 4):
        for parts in combinations(KINDS, count):
            yield [number for part in parts for number in part]
            yield [number for part in reversed(parts) for number in part]


def small_requests():
    for components in small_components():
        for quantity in range(5):
            for low, high in BOUNDS:
                yield quantity, low, high, components


def feasible_costs(quantity, low, high, components):
    """The cost of each blend in whole amounts, halves and thirds that check_blend calls feasible."""
    for den in (1, 2, 3):
        numerators = [range(den * most + 1) for most in components[0::3]]
        for blend in product(*numerators):
            # Only for speed: check_blend would refuse the others, too.
            if sum(blend) == den * quantity:
                is_feasible, cost, cost_den = check_blend(quantity, low, high, den, components, list(blend))[:3]
                if is_feasible:
                    yield Fraction(cost, cost_den)


def cost_answered(answer):
    """The cost in an answer of cheapest_blend or cost_without_component, None if there was no blend."""
    return None if answer == [-33] else Fraction(answer[1], answer[2])


class Requirements(unittest.TestCase):
    def test_1_optimality(self):
        for request in small_requests():
            costs = list(feasible_costs(*request))
            answer = cheapest_blend(*request)
            if costs and (answer == [-33] or min(costs) < cost_answered(answer)):
                self.fail(f"{request}: {answer}, but a blend costs {min(costs)}")

    def test_1_cheapest_blend_is_itself_feasible_with_the_cost_answered(self):
        for request in small_requests():
            answer = cheapest_blend(*request)
            if answer != [-33]:
                amounts = oracle.as_fractions(answer[3:])
                den = max([amount.denominator for amount in amounts], default=1)
                checked = check_blend(*request[:3], den, request[3], [int(amount * den) for amount in amounts])
                self.assertEqual(checked[:3], [1] + answer[1:3])

    def test_2_weak_duality(self):
        prices = [list(some) for some in product((-2, 2, 6), (0, 1), (0, 2))]
        for request in small_requests():
            least = min(feasible_costs(*request), default=None)
            if least is not None:
                for some in prices:
                    answer = dual_bound(*request, some)
                    if Fraction(answer[1], answer[2]) > least:
                        self.fail(f"{request}, {some}: {answer}, but a blend costs {least}")

    def test_3_never_cheaper_without_a_component(self):
        for quantity, low, high, components in small_requests():
            whole = cheapest_blend(quantity, low, high, components)
            for index in range(len(components) // 3):
                self.no_cheaper(cost_without_component(quantity, low, high, index, components), whole)

    def test_3_never_more_expensive_with_a_greater_upper_bound(self):
        for components in small_components():
            for quantity, low in product((0, 1, 3), (0, 1, 2)):
                self.never_dearer([cheapest_blend(quantity, low, high, components) for high in range(low, 7)])
                for index in range(len(components) // 3):
                    self.never_dearer([cost_without_component(quantity, low, high, index, components)
                                       for high in range(low, 7)])

    def never_dearer(self, answers):
        for narrow, wide in zip(answers, answers[1:]):
            self.no_cheaper(narrow, wide)

    def no_cheaper(self, narrow, wide):
        """Where the narrower request has a blend, the wider one has one that costs no more."""
        if narrow != [-33]:
            self.assertEqual(wide[0], 0)
            self.assertLessEqual(cost_answered(wide), cost_answered(narrow))

    def test_4_feasibility(self):
        for quantity, low, high, components in small_requests():
            answer = cheapest_blend(quantity, low, high, components)
            if sum(components[0::3]) < quantity:
                self.assertEqual(answer, [-33])
            else:
                smallest, greatest = property_range(quantity, components)
                within = smallest <= high * quantity and greatest >= low * quantity
                self.assertEqual(answer != [-33], within)

    def test_4_greatest_quantity(self):
        for components in small_components():
            for low, high in BOUNDS[::2]:
                found = [quantity for quantity in range(100)
                         if cheapest_blend(quantity, low, high, components) != [-33]]
                self.assertEqual(max_quantity(low, high, components), [max(found)])
                self.assertEqual(found, list(range(len(found))))


class Examples(unittest.TestCase):
    def test_six_examples_of_the_document(self):
        components = [9, 5, 1, 9, 7, 5]
        for _ in range(2):
            self.assertEqual(cheapest_blend(4, 2, 3, components), [0, 22, 1, 3, 1, 1, 1])
            self.assertEqual(check_blend(4, 2, 3, 1, components, [2, 2]), [1, 24, 1, 12, 1])
            self.assertEqual(dual_bound(4, 2, 3, components, [4, 0, 0]), [0, 16, 1])
            self.assertEqual(cost_without_component(4, 2, 3, 1, components), [-33])
            self.assertEqual(max_quantity(2, 3, components), [18])
            self.assertEqual(property_range(4, components), [4, 20])
            self.assertEqual(components, [9, 5, 1, 9, 7, 5])


if __name__ == "__main__":
    unittest.main()
