import unittest
from itertools import product

from meanblend.blending import check_blend, max_quantity
from tests import oracle

TWO = [9, 5, 1, 9, 7, 5]


class OrdinaryQuantities(unittest.TestCase):
    def test_example_of_the_document(self):
        self.assertEqual(max_quantity(2, 3, TWO), [18])

    def test_one_component(self):
        self.assertEqual(max_quantity(2, 4, [5, 7, 3]), [5])
        self.assertEqual(max_quantity(4, 6, [5, 7, 3]), [0])

    def test_two_components(self):
        # All of the second with 1 of the first for each 3 of it; the other way round below.
        self.assertEqual(max_quantity(4, 9, TWO), [12])
        self.assertEqual(max_quantity(0, 2, TWO), [12])
        self.assertEqual(max_quantity(2, 2, TWO), [12])
        self.assertEqual(max_quantity(3, 3, TWO), [18])

    def test_three_components(self):
        # 3 * 6 + 2 * 4 + x is at least 4 * (5 + x), so x is at most 2.
        self.assertEqual(max_quantity(4, 9, [3, 1, 6, 9, 1, 1, 2, 1, 4]), [7])

    def test_four_components(self):
        # 3 * 6 + 2 * 4 + 1 * 3 + x is at least 4 * (6 + x), so x is at most 5/3.
        self.assertEqual(max_quantity(4, 9, [9, 1, 1, 2, 1, 4, 1, 1, 3, 3, 1, 6]), [7])

    def test_costs_make_no_difference(self):
        for costs in product((0, 1, 99), repeat=2):
            self.assertEqual(max_quantity(4, 9, [9, costs[0], 1, 9, costs[1], 5]), [12])

    def test_order_of_the_components_makes_no_difference(self):
        self.assertEqual(max_quantity(4, 9, [9, 7, 5, 9, 5, 1]), [12])
        self.assertEqual(max_quantity(4, 9, [2, 1, 4, 9, 1, 1, 3, 1, 6]), [7])

    def test_answer_is_a_new_list_of_one_whole_number(self):
        for arguments in ((2, 3, TWO), (6, 9, TWO), (0, 99, []), (2, 3, TWO[:5]), (3, 2, TWO)):
            answer = max_quantity(*arguments)
            self.assertIs(type(answer), list)
            self.assertEqual([type(number) for number in answer], [int])
            answer.append(5)
            self.assertEqual(max_quantity(*arguments), answer[:-1])


class WhatBoundsTheQuantity(unittest.TestCase):
    def test_available_amounts(self):
        self.assertEqual(max_quantity(0, 99, [3, 1, 4, 2, 1, 5]), [5])
        self.assertEqual(max_quantity(4, 5, [3, 1, 4, 2, 1, 5]), [5])
        self.assertEqual(max_quantity(0, 99, [3, 1, 4, 0, 1, 5, 2, 1, 5, 9, 1, 9]), [14])

    def test_lower_bound(self):
        # 2 * 9 + x is at least 5 * (2 + x): x is at most 2; 6 * (2 + x): x is at most 6/5.
        self.assertEqual(max_quantity(5, 9, [2, 1, 9, 9, 1, 1]), [4])
        self.assertEqual(max_quantity(6, 9, [2, 1, 9, 9, 1, 1]), [3])
        self.assertEqual(max_quantity(9, 9, [2, 1, 9, 9, 1, 1]), [2])
        self.assertEqual(max_quantity(10, 10, [2, 1, 9, 9, 1, 1]), [0])

    def test_upper_bound(self):
        # 2 * 1 + 9 * x is at most 5 * (2 + x): x is at most 2; 4 * (2 + x): x is at most 6/5.
        self.assertEqual(max_quantity(0, 5, [9, 1, 9, 2, 1, 1]), [4])
        self.assertEqual(max_quantity(0, 4, [9, 1, 9, 2, 1, 1]), [3])
        self.assertEqual(max_quantity(0, 1, [9, 1, 9, 2, 1, 1]), [2])
        self.assertEqual(max_quantity(0, 0, [9, 1, 9, 2, 1, 1]), [0])

    def test_a_fraction_more_would_still_be_feasible(self):
        # With x of the second 16/3 is the greatest quantity, 3 * x is at most 10.
        self.assertEqual(max_quantity(4, 9, [2, 1, 9, 9, 1, 1]), [5])
        self.assertEqual(max_quantity(0, 6, [9, 1, 9, 2, 1, 1]), [5])
        # The greatest quantity is 98/48, just above 2, then 2 itself, then 99/50, just below.
        self.assertEqual(max_quantity(49, 49, [1, 1, 99, 9, 1, 1]), [2])
        self.assertEqual(max_quantity(50, 50, [1, 1, 99, 9, 1, 1]), [2])
        self.assertEqual(max_quantity(50, 50, [1, 1, 99, 9, 1, 0]), [1])

    def test_amounts_may_be_fractions(self):
        # 3/5 and 2/5 for the quantity 1; 5/3 is the greatest one.
        self.assertEqual(max_quantity(2, 2, [1, 1, 0, 9, 1, 5]), [1])
        # 4/3 and 8/3 for the quantity 4.
        self.assertEqual(max_quantity(2, 2, [9, 1, 0, 3, 1, 3]), [4])

    def test_nothing_between_the_bounds(self):
        self.assertEqual(max_quantity(6, 99, TWO), [0])
        self.assertEqual(max_quantity(0, 0, TWO), [0])
        self.assertEqual(max_quantity(6, 6, [9, 1, 5, 9, 1, 1, 9, 1, 5, 9, 1, 3]), [0])
        self.assertEqual(max_quantity(6, 6, [9, 1, 7, 9, 1, 8]), [0])
        # The one between the bounds, or the one that would help, isn't there.
        self.assertEqual(max_quantity(6, 99, [9, 5, 1, 9, 7, 5, 0, 1, 7]), [0])
        self.assertEqual(max_quantity(6, 99, [0, 1, 99, 9, 7, 5]), [0])

    def test_both_sides_of_the_bounds_with_a_mean_between(self):
        self.assertEqual(max_quantity(3, 3, [9, 1, 2, 9, 1, 4]), [18])
        self.assertEqual(max_quantity(3, 3, [9, 1, 2, 5, 1, 4]), [10])
        self.assertEqual(max_quantity(3, 3, [4, 1, 2, 5, 1, 4]), [8])


class Edges(unittest.TestCase):
    def test_no_components(self):
        for bounds in ((0, 0), (0, 99), (99, 99), (2, 3)):
            self.assertEqual(max_quantity(*bounds, []), [0])

    def test_nothing_there(self):
        for count in range(1, 5):
            self.assertEqual(max_quantity(0, 99, [0, 5, 1] * count), [0])
            self.assertEqual(max_quantity(1, 1, [0, 5, 1] * count), [0])

    def test_never_above_99(self):
        self.assertEqual(max_quantity(0, 99, [50, 1, 7, 48, 1, 7]), [98])
        self.assertEqual(max_quantity(0, 99, [50, 1, 7, 49, 1, 7]), [99])
        self.assertEqual(max_quantity(0, 99, [50, 1, 7, 50, 1, 7]), [99])
        self.assertEqual(max_quantity(0, 99, [50, 1, 7] * 4), [99])
        self.assertEqual(max_quantity(7, 7, [50, 1, 7] * 4), [99])
        # Of the quantity 100 the mean would be just on the bound, then just off it.
        self.assertEqual(max_quantity(5, 9, [50, 1, 9, 50, 1, 1]), [99])
        self.assertEqual(max_quantity(6, 9, [50, 1, 9, 50, 1, 1]), [80])
        self.assertEqual(max_quantity(0, 5, [50, 1, 9, 50, 1, 1]), [99])
        self.assertEqual(max_quantity(0, 4, [50, 1, 9, 50, 1, 1]), [80])

    def test_just_below_99_by_a_bound(self):
        # All the property there is, 49 * 98, is a mean of 49 for 98 units.
        self.assertEqual(max_quantity(49, 99, [49, 1, 98, 50, 1, 0]), [98])

    def test_equal_bounds_at_below_and_above_the_components(self):
        for own_property in range(8):
            expected = [9] if own_property == 4 else [0]
            self.assertEqual(max_quantity(4, 4, [9, 1, own_property]), expected)

    def test_one_component_at_below_and_above_two_bounds(self):
        for own_property in range(9):
            expected = [9] if 3 <= own_property <= 5 else [0]
            self.assertEqual(max_quantity(3, 5, [9, 1, own_property]), expected)

    def test_low_0(self):
        self.assertEqual(max_quantity(0, 0, [9, 1, 0]), [9])
        self.assertEqual(max_quantity(0, 0, [9, 1, 0, 9, 1, 1]), [9])
        self.assertEqual(max_quantity(0, 0, [9, 1, 1]), [0])
        self.assertEqual(max_quantity(0, 1, [9, 1, 0, 9, 1, 2]), [18])

    def test_high_99(self):
        self.assertEqual(max_quantity(99, 99, [9, 1, 99]), [9])
        self.assertEqual(max_quantity(99, 99, [9, 1, 99, 9, 1, 98]), [9])
        self.assertEqual(max_quantity(99, 99, [9, 1, 98]), [0])
        self.assertEqual(max_quantity(98, 99, [9, 1, 99, 9, 1, 97]), [18])


class Limits(unittest.TestCase):
    def test_low_and_high(self):
        for bounds, valid in oracle.bounds_at_limits():
            for components in ([], [5, 1, 3], TWO, [50, 1, 99, 50, 1, 99]):
                with self.subTest(bounds=bounds, components=components):
                    expected = oracle.greatest_quantity(*bounds, components) if valid else [-22]
                    self.assertEqual(max_quantity(*bounds, components), expected)

    def test_each_bound_by_itself(self):
        self.assertEqual(max_quantity(0, 99, [5, 1, 3]), [5])
        self.assertEqual(max_quantity(0, 100, [5, 1, 3]), [-22])
        self.assertEqual(max_quantity(99, 99, [5, 1, 99]), [5])
        self.assertEqual(max_quantity(99, 100, [5, 1, 99]), [-22])
        self.assertEqual(max_quantity(100, 99, [5, 1, 99]), [-22])
        self.assertEqual(max_quantity(3, 3, [5, 1, 3]), [5])
        self.assertEqual(max_quantity(3, 2, [5, 1, 3]), [-22])
        self.assertEqual(max_quantity(oracle.GREATEST_NUMBER, 99, [5, 1, 3]), [-22])
        self.assertEqual(max_quantity(0, oracle.GREATEST_NUMBER, [5, 1, 3]), [-22])

    def test_components(self):
        for components, valid in oracle.components_at_limits():
            for bounds in ((0, 99), (1, 1), (2, 50)):
                with self.subTest(bounds=bounds, components=components):
                    expected = oracle.greatest_quantity(*bounds, components) if valid else [-22]
                    self.assertEqual(max_quantity(*bounds, components), expected)

    def test_greatest_numbers_all_at_once(self):
        self.assertEqual(max_quantity(99, 99, [50, 99, 99] * 4), [99])


class Purity(unittest.TestCase):
    def test_components_stay_as_they_were_and_answers_repeat(self):
        for low, high, components in ((2, 3, [9, 5, 1, 9, 7, 5]), (4, 9, [9, 7, 5, 9, 5, 1]), (6, 9, [9, 5, 1]),
                                      (0, 9, [9, 5, 1, 0, 0, 0, 3, 4, 2]), (3, 2, [9, 5, 1]), (2, 3, [9, 5, 100]),
                                      (2, 3, [9, 5]), (0, 0, [])):
            before = list(components)
            first = max_quantity(low, high, components)
            max_quantity(1, 2, [9, 1, 0, 9, 2, 3])
            self.assertEqual(components, before)
            self.assertEqual(max_quantity(low, high, components), first)
            self.assertEqual(components, before)


class AgainstTheOracle(unittest.TestCase):
    kinds = [(0, 1, 2), (1, 3, 0), (2, 1, 5), (3, 2, 1), (5, 4, 3), (4, 0, 7)]

    def instances(self, counts):
        for count in counts:
            for parts in product(self.kinds, repeat=count):
                yield [number for part in parts for number in part]

    def test_up_to_three_components_with_all_bounds(self):
        bounds = [(low, high) for low in range(9) for high in range(low, 9)]
        for components in self.instances(range(3)):
            self.agree(bounds, components)
        for components in self.instances([3]):
            self.agree([(0, 2), (2, 2), (2, 4), (3, 3), (4, 5), (5, 9)], components)

    def test_four_components(self):
        for start in range(3):
            for parts in product(self.kinds[start:start + 4:3], repeat=4):
                components = [number for part in parts for number in part]
                self.agree([(0, 1), (1, 1), (2, 3), (4, 9), (6, 6)], components)

    def agree(self, bounds, components):
        for low, high in bounds:
            answer = max_quantity(low, high, components)
            if answer != oracle.greatest_quantity(low, high, components):
                self.fail(f"{(low, high, components)}: {answer}")

    def test_basic_blends_of_all_quantities_from_0_to_99(self):
        for components in self.instances(range(3)):
            for low, high in ((0, 1), (2, 2), (3, 4)):
                found = [quantity for quantity in range(100)
                         if oracle.basic_blends(quantity, low, high, components)]
                self.assertEqual(max_quantity(low, high, components), found[-1:])

    def test_no_blend_in_halves_or_thirds_has_a_greater_quantity(self):
        for components in self.instances([2]):
            for den, low, high in product((1, 2, 3), (1, 2), (2, 3)):
                most = max_quantity(low, high, components)[0]
                numerators = [range(den * amount + 1) for amount in components[0::3]]
                for blend in product(*numerators):
                    quantity = sum(blend) // den
                    if quantity > most:
                        self.assertEqual(check_blend(quantity, low, high, den, components, list(blend))[0], 0)


if __name__ == "__main__":
    unittest.main()
