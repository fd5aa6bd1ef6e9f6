import unittest
from itertools import product

from meanblend.blending import cheapest_blend, cost_without_component
from tests import oracle

TWO = [9, 5, 1, 9, 7, 5]


class OrdinaryCosts(unittest.TestCase):
    def costs(self, quantity, low, high, components):
        """The answers for each index in its turn."""
        return [cost_without_component(quantity, low, high, index, components)
                for index in range(len(components) // 3)]

    def test_example_of_the_document(self):
        self.assertEqual(cost_without_component(4, 2, 3, 1, TWO), [-33])

    def test_two_components(self):
        self.assertEqual(self.costs(4, 2, 3, TWO), [[-33], [-33]])
        self.assertEqual(self.costs(4, 1, 5, TWO), [[0, 28, 1], [0, 20, 1]])
        self.assertEqual(self.costs(4, 2, 5, TWO), [[0, 28, 1], [-33]])
        self.assertEqual(self.costs(4, 1, 3, TWO), [[-33], [0, 20, 1]])

    def test_three_components(self):
        # The mean 3 of 1 and 5, of 1 and 7, of 5 and 7 which is out of reach.
        components = [9, 2, 1, 9, 8, 7, 9, 5, 5]
        self.assertEqual(self.costs(4, 3, 3, components), [[-33], [0, 14, 1], [0, 16, 1]])

    def test_four_components_with_true_fractions(self):
        # Mean 2 of the properties 0 and 6 (7/3), 0 and 4 (5/2), 1 and 4 (16/3).
        components = [9, 1, 0, 9, 4, 4, 9, 5, 6, 9, 6, 1]
        self.assertEqual(cheapest_blend(1, 2, 2, components)[:3], [0, 7, 3])
        self.assertEqual(self.costs(1, 2, 2, components), [[0, 16, 3], [0, 7, 3], [0, 5, 2], [0, 7, 3]])

    def test_lowest_terms(self):
        # Without the last, two thirds and one third of the others for each unit.
        self.assertEqual(cost_without_component(1, 2, 9, 2, [1, 0, 0, 1, 2, 6, 1, 0, 9]), [0, 2, 3])
        self.assertEqual(cost_without_component(1, 2, 9, 2, [1, 1, 0, 1, 7, 6, 1, 0, 9]), [0, 3, 1])
        self.assertEqual(cost_without_component(2, 2, 9, 2, [2, 2, 0, 2, 5, 6, 2, 0, 9]), [0, 6, 1])

    def test_zero_is_0_over_1(self):
        self.assertEqual(cost_without_component(1, 2, 9, 2, [1, 0, 0, 1, 0, 6, 1, 0, 9]), [0, 0, 1])
        self.assertEqual(cost_without_component(3, 0, 9, 0, [9, 1, 1, 9, 0, 2]), [0, 0, 1])

    def test_answer_is_a_new_list_of_whole_numbers(self):
        for arguments in ((4, 1, 5, 0, TWO), (1, 2, 9, 2, [1, 0, 0, 1, 2, 6, 1, 0, 9]), (4, 2, 3, 1, TWO),
                          (4, 2, 3, 2, TWO), (100, 2, 3, 1, TWO)):
            answer = cost_without_component(*arguments)
            self.assertIs(type(answer), list)
            self.assertEqual({type(number) for number in answer}, {int})
            answer.append(5)
            self.assertEqual(cost_without_component(*arguments), answer[:-1])


class WhatTheComponentIsWorth(unittest.TestCase):
    components = [9, 2, 3, 9, 4, 3, 9, 7, 3]

    def test_cost_stays(self):
        self.assertEqual(cheapest_blend(5, 3, 3, self.components)[:3], [0, 10, 1])
        self.assertEqual(cost_without_component(5, 3, 3, 1, self.components), [0, 10, 1])
        self.assertEqual(cost_without_component(5, 3, 3, 2, self.components), [0, 10, 1])

    def test_cost_stays_for_another_as_cheap(self):
        self.assertEqual(cost_without_component(5, 3, 3, 0, [9, 2, 3, 9, 2, 3]), [0, 10, 1])
        self.assertEqual(cost_without_component(5, 3, 3, 1, [9, 2, 3, 9, 2, 3]), [0, 10, 1])

    def test_cost_stays_without_a_component_of_which_nothing_is_there(self):
        self.assertEqual(cost_without_component(5, 3, 3, 0, [0, 0, 3, 9, 2, 3]), [0, 10, 1])
        self.assertEqual(cost_without_component(5, 3, 3, 1, [0, 0, 3, 9, 2, 3]), [-33])

    def test_cost_rises(self):
        self.assertEqual(cost_without_component(5, 3, 3, 0, self.components), [0, 20, 1])

    def test_too_little_is_left(self):
        self.assertEqual(cost_without_component(18, 3, 3, 0, self.components), [0, 99, 1])
        self.assertEqual(cost_without_component(19, 3, 3, 0, self.components), [-33])

    def test_property_comes_out_of_reach(self):
        self.assertEqual(cost_without_component(4, 6, 9, 1, [9, 1, 5, 9, 7, 8]), [-33])
        self.assertEqual(cost_without_component(4, 0, 6, 0, [9, 1, 5, 9, 7, 8]), [-33])
        self.assertEqual(cost_without_component(4, 6, 8, 0, [9, 1, 5, 9, 7, 8]), [0, 28, 1])

    def test_nothing_feasible_in_the_first_place(self):
        for index in (0, 1, 2):
            self.assertEqual(cost_without_component(28, 3, 3, index, self.components), [-33])
            self.assertEqual(cost_without_component(5, 4, 9, index, self.components), [-33])
            self.assertEqual(cost_without_component(5, 0, 2, index, self.components), [-33])


class Edges(unittest.TestCase):
    def test_the_only_component(self):
        self.assertEqual(cost_without_component(0, 2, 3, 0, [9, 5, 1]), [0, 0, 1])
        self.assertEqual(cost_without_component(1, 0, 99, 0, [9, 5, 1]), [-33])
        self.assertEqual(cost_without_component(99, 0, 99, 0, [9, 5, 1]), [-33])

    def test_quantity_0(self):
        for index in (0, 1):
            self.assertEqual(cost_without_component(0, 9, 9, index, TWO), [0, 0, 1])


class NoSuchComponent(unittest.TestCase):
    def test_index_from_the_number_of_components_on(self):
        for count in range(5):
            components = [9, 5, 1] * count
            for index in (count, count + 1, 3 * count + 3, oracle.GREATEST_NUMBER):
                with self.subTest(count=count, index=index):
                    self.assertEqual(cost_without_component(4, 0, 3, index, components), [-2])
                    self.assertEqual(cost_without_component(0, 0, 3, index, components), [-2])
            for index in range(count):
                with self.subTest(count=count, index=index):
                    expected = [0, 20, 1] if count > 1 else [-33]
                    self.assertEqual(cost_without_component(4, 0, 3, index, components), expected)

    def test_goes_ahead_of_feasibility(self):
        self.assertEqual(cost_without_component(19, 0, 9, 1, TWO), [-33])
        self.assertEqual(cost_without_component(19, 0, 9, 2, TWO), [-2])
        self.assertEqual(cost_without_component(1, 0, 9, 0, []), [-2])

    def test_comes_behind_the_limits(self):
        self.assertEqual(cost_without_component(100, 0, 9, 2, TWO), [-22])
        self.assertEqual(cost_without_component(4, 0, 100, 2, TWO), [-22])
        self.assertEqual(cost_without_component(4, 5, 4, 2, TWO), [-22])
        self.assertEqual(cost_without_component(4, 0, 9, 2, [9, 5, 1, 9, 7, 100]), [-22])
        self.assertEqual(cost_without_component(4, 0, 9, 2, TWO + [1]), [-22])
        self.assertEqual(cost_without_component(4, 0, 9, 5, [1, 1, 1] * 5), [-22])


class Limits(unittest.TestCase):
    def test_limits_that_every_operation_looks_at(self):
        for request, valid in oracle.requests_at_limits():
            for index in (0, 1, 2, 3, 4, oracle.GREATEST_NUMBER):
                arguments = (*request[:3], index, request[3])
                with self.subTest(arguments=arguments):
                    expected = oracle.without(*arguments) if valid else [-22]
                    self.assertEqual(cost_without_component(*arguments), expected)

    def test_component_left_out_keeps_its_limits(self):
        for index, place in product(range(4), range(3)):
            components = [5, 3, 2] * 4
            most = (50, 99, 99)[place]
            for number in (most, most + 1, oracle.GREATEST_NUMBER):
                components[3 * index + place] = number
                with self.subTest(components=components):
                    expected = [0, 12, 1] if number == most else [-22]
                    self.assertEqual(cost_without_component(4, 2, 2, index, components), expected)

    def test_five_components_are_too_many_without_one_as_well(self):
        for index in range(5):
            self.assertEqual(cost_without_component(1, 0, 9, index, [1, 1, 1] * 5), [-22])

    def test_greatest_numbers_all_at_once(self):
        for index in range(4):
            self.assertEqual(cost_without_component(99, 99, 99, index, [50, 99, 99] * 4), [0, 9801, 1])


class Purity(unittest.TestCase):
    def test_components_stay_as_they_were_and_answers_repeat(self):
        for arguments in ((4, 1, 5, 0, [9, 5, 1, 9, 7, 5]), (4, 1, 5, 1, [9, 5, 1, 9, 7, 5]),
                          (1, 2, 2, 1, [9, 1, 0, 9, 4, 4, 9, 5, 6]), (4, 2, 3, 1, [9, 5, 1, 9, 7, 5]),
                          (1, 0, 9, 0, [9, 5, 1]), (4, 2, 3, 7, [9, 5, 1]), (4, 2, 3, 0, [9, 5, 100]),
                          (0, 0, 0, 0, [])):
            components = arguments[4]
            before = list(components)
            first = cost_without_component(*arguments)
            cost_without_component(7, 1, 2, 0, [9, 1, 0, 9, 2, 3])
            self.assertEqual(components, before)
            self.assertEqual(cost_without_component(*arguments), first)
            self.assertEqual(components, before)


class AgainstTheOracle(unittest.TestCase):
    kinds = [(0, 1, 2), (1, 3, 0), (2, 1, 5), (3, 2, 1), (5, 4, 3), (4, 0, 7)]

    def instances(self):
        for count in range(4):
            for parts in product(self.kinds, repeat=count):
                yield [number for part in parts for number in part]
        for start in range(3):
            yield [number for part in self.kinds[start:start + 4] for number in part]

    def test_up_to_four_components(self):
        for components in self.instances():
            for quantity, low, high in ((0, 1, 1), (1, 2, 2), (3, 2, 4), (5, 0, 3)):
                for index in range(len(components) // 3 + 1):
                    arguments = (quantity, low, high, index, components)
                    answer = cost_without_component(*arguments)
                    if answer != oracle.without(*arguments):
                        self.fail(f"{arguments}: {answer}")


if __name__ == "__main__":
    unittest.main()
