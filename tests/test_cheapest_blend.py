import unittest
from itertools import product

from meanblend.blending import cheapest_blend
from tests import oracle

GREATEST_NUMBER = 4294967295


class OrdinaryBlends(unittest.TestCase):
    def test_example_of_the_document(self):
        self.assertEqual(cheapest_blend(4, 2, 3, [9, 5, 1, 9, 7, 5]), [0, 22, 1, 3, 1, 1, 1])

    def test_one_component(self):
        self.assertEqual(cheapest_blend(3, 2, 4, [5, 7, 3]), [0, 21, 1, 3, 1])

    def test_two_components_with_fractions_in_lowest_terms(self):
        # Property 0 and 6 for the mean 4: one third and two thirds.
        self.assertEqual(cheapest_blend(1, 4, 4, [1, 1, 0, 1, 1, 6]), [0, 1, 1, 1, 3, 2, 3])
        self.assertEqual(cheapest_blend(1, 4, 4, [1, 0, 0, 1, 5, 6]), [0, 10, 3, 1, 3, 2, 3])

    def test_three_components(self):
        # All of the cheap one; the other 3 units have 2 * x + 5 * (3 - x) = 10.
        self.assertEqual(
            cheapest_blend(4, 0, 3, [1, 1, 2, 9, 5, 2, 9, 3, 5]),
            [0, 40, 3, 1, 1, 5, 3, 4, 3],
        )

    def test_four_components(self):
        # All of the free one; the other 8 units have 8 * x + 1 * (8 - x) = 50 - 18.
        self.assertEqual(
            cheapest_blend(10, 3, 5, [2, 0, 9, 4, 1, 8, 6, 3, 1, 9, 8, 0]),
            [0, 120, 7, 2, 1, 24, 7, 32, 7, 0, 1],
        )

    def test_amount_zero_is_0_over_1_beside_fractions(self):
        self.assertEqual(
            cheapest_blend(1, 1, 1, [1, 9, 1, 1, 0, 0, 1, 0, 3]),
            [0, 0, 1, 0, 1, 2, 3, 1, 3],
        )

    def test_answer_is_a_new_list_of_whole_numbers(self):
        for arguments in ((4, 2, 3, [9, 5, 1, 9, 7, 5]), (100, 0, 0, []), (1, 0, 0, [])):
            answer = cheapest_blend(*arguments)
            self.assertIs(type(answer), list)
            self.assertEqual({type(number) for number in answer}, {int})
            answer.append(5)
            self.assertEqual(cheapest_blend(*arguments), answer[:-1])


class FormsOfBasicBlends(unittest.TestCase):
    def test_every_amount_nothing_or_all_within_the_bounds(self):
        self.assertEqual(cheapest_blend(5, 0, 9, [2, 1, 4, 9, 8, 3, 3, 2, 4]), [0, 8, 1, 2, 1, 0, 1, 3, 1])

    def test_every_amount_nothing_or_all_at_the_lower_bound(self):
        self.assertEqual(cheapest_blend(5, 4, 9, [2, 1, 4, 9, 8, 5, 3, 2, 4]), [0, 8, 1, 2, 1, 0, 1, 3, 1])

    def test_every_amount_nothing_or_all_at_the_upper_bound(self):
        self.assertEqual(cheapest_blend(5, 0, 4, [2, 1, 4, 9, 8, 3, 3, 2, 4]), [0, 8, 1, 2, 1, 0, 1, 3, 1])

    def test_one_makes_up_the_quantity_within_the_bounds(self):
        self.assertEqual(cheapest_blend(5, 0, 9, [2, 1, 4, 9, 3, 3]), [0, 11, 1, 2, 1, 3, 1])

    def test_one_makes_up_the_quantity_at_the_lower_bound(self):
        # 2 * 6 + 3 * 1 is 3 * 5.
        self.assertEqual(cheapest_blend(5, 3, 9, [2, 1, 6, 9, 3, 1]), [0, 11, 1, 2, 1, 3, 1])

    def test_one_makes_up_the_quantity_at_the_upper_bound(self):
        self.assertEqual(cheapest_blend(5, 0, 3, [2, 1, 6, 9, 3, 1]), [0, 11, 1, 2, 1, 3, 1])

    def test_two_make_up_the_quantity_at_the_lower_bound(self):
        self.assertEqual(cheapest_blend(1, 2, 5, [9, 5, 1, 9, 7, 5]), [0, 11, 2, 3, 4, 1, 4])

    def test_two_make_up_the_quantity_at_the_upper_bound(self):
        self.assertEqual(cheapest_blend(1, 0, 2, [9, 7, 1, 9, 5, 5]), [0, 13, 2, 3, 4, 1, 4])

    def test_two_make_up_the_quantity_in_either_order_of_properties(self):
        self.assertEqual(cheapest_blend(1, 2, 5, [9, 7, 5, 9, 5, 1]), [0, 11, 2, 1, 4, 3, 4])
        self.assertEqual(cheapest_blend(1, 0, 2, [9, 5, 5, 9, 7, 1]), [0, 13, 2, 1, 4, 3, 4])

    def test_two_make_up_the_quantity_beside_one_used_up(self):
        # All of the free one; the other 3 units have 7 * x + 4 * (3 - x) = 20.
        self.assertEqual(
            cheapest_blend(5, 4, 9, [2, 0, 0, 9, 3, 7, 9, 2, 4]),
            [0, 26, 3, 2, 1, 8, 3, 1, 3],
        )

    def test_two_make_up_the_quantity_with_properties_next_to_each_other(self):
        # All of the free one; the other 3 units have 1 * x + 2 * (3 - x) = 5.
        self.assertEqual(cheapest_blend(4, 3, 9, [1, 0, 7, 9, 1, 1, 9, 5, 2]), [0, 11, 1, 1, 1, 1, 1, 2, 1])
        # All of the free one; the other 4 units have 4 * x + 3 * (4 - x) = 14.
        self.assertEqual(cheapest_blend(5, 0, 3, [9, 1, 4, 9, 5, 3, 1, 0, 1]), [0, 12, 1, 2, 1, 2, 1, 1, 1])


class EqualCosts(unittest.TestCase):
    def test_same_components(self):
        self.assertEqual(cheapest_blend(4, 0, 9, [5, 3, 1, 5, 3, 1]), [0, 12, 1, 0, 1, 4, 1])
        self.assertEqual(cheapest_blend(6, 0, 9, [5, 3, 1, 5, 3, 1]), [0, 18, 1, 1, 1, 5, 1])

    def test_second_amount_decides(self):
        self.assertEqual(
            cheapest_blend(2, 0, 9, [1, 0, 5, 3, 4, 2, 3, 4, 7]),
            [0, 4, 1, 1, 1, 0, 1, 1, 1],
        )

    def test_amounts_are_compared_as_fractions(self):
        # 2/3, 4/3 against 1, 1: the numerators alone would choose the latter.
        self.assertEqual(cheapest_blend(2, 3, 4, [1, 0, 0, 9, 0, 6]), [0, 0, 1, 2, 3, 4, 3])
        self.assertEqual(cheapest_blend(2, 3, 4, [1, 5, 0, 9, 5, 6]), [0, 10, 1, 2, 3, 4, 3])

    def test_least_of_three_fractions(self):
        # The first with the second 1/3, with the third 1/2, with the fourth 5/7.
        components = [9, 0, 0, 9, 0, 3, 9, 0, 4, 9, 0, 7]
        self.assertEqual(cheapest_blend(1, 2, 2, components), [0, 0, 1, 1, 3, 2, 3, 0, 1, 0, 1])

    def test_smaller_cost_goes_ahead_of_smaller_amounts(self):
        self.assertEqual(cheapest_blend(3, 0, 9, [5, 2, 1, 5, 3, 1]), [0, 6, 1, 3, 1, 0, 1])

    def test_costs_are_compared_as_fractions(self):
        # 7/2 against 11/3 and 4: the numerators alone would choose 4.
        self.assertEqual(
            cheapest_blend(1, 1, 1, [1, 4, 1, 1, 3, 0, 1, 4, 2, 1, 5, 3]),
            [0, 7, 2, 0, 1, 1, 2, 1, 2, 0, 1],
        )


class Edges(unittest.TestCase):
    def test_quantity_0(self):
        self.assertEqual(cheapest_blend(0, 3, 3, [9, 5, 1, 9, 7, 5]), [0, 0, 1, 0, 1, 0, 1])
        self.assertEqual(cheapest_blend(0, 99, 99, [0, 5, 1]), [0, 0, 1, 0, 1])

    def test_no_components(self):
        self.assertEqual(cheapest_blend(0, 0, 0, []), [0, 0, 1])
        self.assertEqual(cheapest_blend(0, 7, 9, []), [0, 0, 1])
        self.assertEqual(cheapest_blend(1, 0, 99, []), [-33])

    def test_component_of_which_nothing_is_there(self):
        self.assertEqual(cheapest_blend(2, 0, 9, [0, 0, 1, 5, 9, 1]), [0, 18, 1, 0, 1, 2, 1])
        self.assertEqual(cheapest_blend(1, 2, 2, [0, 0, 2, 5, 1, 1, 5, 3, 4]), [0, 5, 3, 0, 1, 2, 3, 1, 3])
        self.assertEqual(cheapest_blend(1, 0, 9, [0, 0, 1, 0, 3, 2]), [-33])

    def test_components_with_the_same_property(self):
        self.assertEqual(cheapest_blend(4, 3, 3, [3, 2, 3, 3, 1, 3]), [0, 5, 1, 1, 1, 3, 1])
        self.assertEqual(cheapest_blend(4, 2, 2, [3, 2, 3, 3, 1, 3]), [-33])

    def test_components_for_nothing(self):
        self.assertEqual(cheapest_blend(4, 0, 9, [9, 0, 0]), [0, 0, 1, 4, 1])


class NoFeasibleBlend(unittest.TestCase):
    def test_too_little_there(self):
        self.assertEqual(cheapest_blend(18, 0, 99, [9, 5, 1, 9, 7, 5]), [0, 108, 1, 9, 1, 9, 1])
        self.assertEqual(cheapest_blend(19, 0, 99, [9, 5, 1, 9, 7, 5]), [-33])

    def test_mean_property_too_small_for_the_lower_bound(self):
        self.assertEqual(cheapest_blend(4, 5, 9, [9, 5, 1, 9, 7, 5]), [0, 28, 1, 0, 1, 4, 1])
        self.assertEqual(cheapest_blend(4, 6, 9, [9, 5, 1, 9, 7, 5]), [-33])

    def test_mean_property_too_great_for_the_upper_bound(self):
        self.assertEqual(cheapest_blend(4, 0, 1, [9, 5, 1, 9, 7, 5]), [0, 20, 1, 4, 1, 0, 1])
        self.assertEqual(cheapest_blend(4, 0, 0, [9, 5, 1, 9, 7, 5]), [-33])

    def test_mean_property_out_of_reach_for_the_amounts_there(self):
        # With 1 of the property 9 the mean of 4 units is at most 3.
        self.assertEqual(cheapest_blend(4, 3, 9, [1, 5, 9, 9, 7, 1]), [0, 26, 1, 1, 1, 3, 1])
        self.assertEqual(cheapest_blend(4, 4, 9, [1, 5, 9, 9, 7, 1]), [-33])


class Limits(unittest.TestCase):
    def test_quantity(self):
        components = [50, 1, 0, 50, 1, 0]
        self.assertEqual(cheapest_blend(99, 0, 0, components), [0, 99, 1, 49, 1, 50, 1])
        for quantity in (100, 101, GREATEST_NUMBER):
            self.assertEqual(cheapest_blend(quantity, 0, 0, components), [-22])

    def test_low_and_high(self):
        components = [5, 1, 99]
        self.assertEqual(cheapest_blend(1, 99, 99, components), [0, 1, 1, 1, 1])
        self.assertEqual(cheapest_blend(1, 0, 99, components), [0, 1, 1, 1, 1])
        for bounds in ((0, 100), (99, 100), (100, 100), (100, 99), (0, GREATEST_NUMBER)):
            self.assertEqual(cheapest_blend(1, bounds[0], bounds[1], components), [-22])

    def test_low_at_most_high(self):
        self.assertEqual(cheapest_blend(1, 3, 3, [5, 1, 3]), [0, 1, 1, 1, 1])
        self.assertEqual(cheapest_blend(1, 4, 3, [5, 1, 3]), [-22])
        self.assertEqual(cheapest_blend(0, 1, 0, []), [-22])

    def test_numbers_of_each_component(self):
        for count, place in product(range(1, 5), range(12)):
            if place >= 3 * count:
                continue
            components = [1, 1, 1] * count
            for number, refused in (((50, 99, 99)[place % 3], False), ((51, 100, 100)[place % 3], True),
                                    (GREATEST_NUMBER, True)):
                components[place] = number
                with self.subTest(components=components):
                    self.assertEqual(cheapest_blend(0, 0, 9, components) == [-22], refused)

    def test_greatest_numbers_all_at_once(self):
        self.assertEqual(cheapest_blend(99, 99, 99, [50, 99, 99] * 4), [0, 9801, 1, 0, 1, 0, 1, 49, 1, 50, 1])

    def test_length_of_components(self):
        for length in range(16):
            with self.subTest(length=length):
                self.assertEqual(
                    cheapest_blend(0, 0, 0, [0] * length) != [-22],
                    length in (0, 3, 6, 9, 12),
                )

    def test_limits_go_ahead_of_feasibility(self):
        self.assertEqual(cheapest_blend(100, 0, 9, []), [-22])
        self.assertEqual(cheapest_blend(9, 0, 100, []), [-22])
        self.assertEqual(cheapest_blend(9, 5, 4, [1, 1, 1]), [-22])
        self.assertEqual(cheapest_blend(9, 0, 9, [1, 100, 1]), [-22])
        self.assertEqual(cheapest_blend(9, 0, 9, [1, 1]), [-22])
        self.assertEqual(cheapest_blend(9, 0, 9, [1, 1, 1] * 5), [-22])


class Purity(unittest.TestCase):
    def test_components_stay_as_they_were_and_answers_repeat(self):
        for arguments in ((4, 2, 3, [9, 5, 1, 9, 7, 5]), (1, 1, 1, [1, 9, 1, 1, 0, 0, 1, 0, 3]),
                          (9, 0, 9, [1, 1, 1]), (9, 0, 9, [1, 1, 100]), (0, 0, 0, [])):
            components = arguments[3]
            before = list(components)
            first = cheapest_blend(*arguments)
            cheapest_blend(7, 1, 2, [9, 1, 0, 9, 2, 3])
            self.assertEqual(components, before)
            self.assertEqual(cheapest_blend(*arguments), first)
            self.assertEqual(components, before)


class AgainstTheOracle(unittest.TestCase):
    def agree(self, requests, kinds, count):
        for parts in product(kinds, repeat=count):
            components = [number for part in parts for number in part]
            for quantity, low, high in requests:
                answer = cheapest_blend(quantity, low, high, components)
                if answer != oracle.cheapest(quantity, low, high, components):
                    self.fail(f"{(quantity, low, high, components)}: {answer}")

    def test_up_to_two_components(self):
        kinds = list(product((0, 1, 3), (0, 2, 3), (0, 1, 4)))
        for count in (0, 1):
            self.agree(list(product(range(5), (0, 1, 2), (2, 3))), kinds, count)
        self.agree([(0, 1, 1), (1, 1, 1), (3, 1, 2), (4, 2, 3)], kinds, 2)

    def test_three_components(self):
        kinds = [(0, 1, 2), (1, 3, 0), (2, 1, 5), (3, 2, 1), (3, 2, 4), (5, 4, 3), (5, 1, 0)]
        self.agree([(1, 1, 1), (3, 2, 4), (5, 0, 3), (7, 3, 5)], kinds, 3)

    def test_four_components(self):
        kinds = [(1, 3, 0), (2, 1, 5), (4, 2, 1), (5, 0, 7)]
        self.agree([(3, 2, 2), (8, 2, 6)], kinds, 4)


class Requirements(unittest.TestCase):
    kinds = [(1, 3, 0), (2, 1, 5), (3, 2, 1), (5, 4, 3), (4, 0, 7)]

    def instances(self):
        for count in range(4):
            for parts in product(self.kinds, repeat=count):
                yield [number for part in parts for number in part]

    def test_no_feasible_blend_costs_less(self):
        # Every blend in halves, not only the basic ones.
        for components in self.instances():
            available = components[0::3]
            answer = cheapest_blend(3, 2, 4, components)
            halves = [range(2 * most + 1) for most in available]
            for chosen in product(*halves):
                if sum(chosen) != 6:
                    continue
                amounts = [oracle.Fraction(x, 2) for x in chosen]
                if oracle.feasible(3, 2, 4, components, amounts):
                    self.assertEqual(answer[0], 0)
                    self.assertLessEqual(oracle.Fraction(answer[1], answer[2]), oracle.cost_of(amounts, components))

    def test_answered_blend_is_feasible_and_has_the_answered_cost(self):
        for components in self.instances():
            answer = cheapest_blend(3, 2, 4, components)
            if answer == [-33]:
                continue
            numbers = oracle.as_fractions(answer[1:])
            self.assertTrue(oracle.feasible(3, 2, 4, components, numbers[1:]))
            self.assertEqual(oracle.cost_of(numbers[1:], components), numbers[0])
            self.assertEqual(oracle.pairs(numbers), answer[1:])

    def test_feasible_just_if_enough_is_there_and_the_property_is_in_reach(self):
        for components in self.instances():
            totals = oracle.property_totals(components)
            for quantity, low, high in ((0, 2, 2), (3, 2, 4), (4, 5, 6), (6, 0, 1)):
                within = oracle.in_reach(quantity, low, high, totals)
                self.assertEqual(cheapest_blend(quantity, low, high, components) != [-33], within)


if __name__ == "__main__":
    unittest.main()
