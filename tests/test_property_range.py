import unittest
from itertools import permutations, product

from meanblend.blending import property_range
from tests import oracle

TWO = [9, 5, 1, 9, 7, 5]


def in_each_order(components):
    for parts in permutations(oracle.triples(components)):
        yield [number for part in parts for number in part]


class OrdinaryRanges(unittest.TestCase):
    def test_example_of_the_document(self):
        self.assertEqual(property_range(4, TWO), [4, 20])

    def test_one_component(self):
        self.assertEqual(property_range(3, [5, 7, 4]), [12, 12])
        self.assertEqual(property_range(5, [5, 7, 4]), [20, 20])

    def test_two_components_in_each_order(self):
        for components in in_each_order(TWO):
            self.assertEqual(property_range(9, components), [9, 45])
            # 9 of one and 3 of the other.
            self.assertEqual(property_range(12, components), [9 + 15, 3 + 45])

    def test_three_components_in_each_order(self):
        for components in in_each_order([2, 1, 8, 3, 9, 3, 4, 5, 6]):
            self.assertEqual(property_range(1, components), [3, 8])
            self.assertEqual(property_range(4, components), [9 + 6, 16 + 12])
            self.assertEqual(property_range(8, components), [9 + 24 + 8, 16 + 24 + 6])

    def test_four_components_in_each_order(self):
        for components in in_each_order([2, 1, 8, 3, 9, 3, 4, 5, 6, 1, 0, 9]):
            self.assertEqual(property_range(2, components), [6, 9 + 8])
            self.assertEqual(property_range(5, components), [9 + 12, 9 + 16 + 12])
            self.assertEqual(property_range(8, components), [9 + 24 + 8, 9 + 16 + 24 + 3])

    def test_costs_make_no_difference(self):
        for costs in product((0, 1, 99), repeat=2):
            self.assertEqual(property_range(12, [9, costs[0], 1, 9, costs[1], 5]), [24, 48])

    def test_a_small_amount_of_an_extreme_property(self):
        self.assertEqual(property_range(5, [1, 1, 0, 9, 1, 50, 1, 1, 99]), [200, 299])
        self.assertEqual(property_range(5, [9, 1, 50, 1, 1, 99]), [250, 299])
        self.assertEqual(property_range(5, [9, 1, 50, 1, 1, 0]), [200, 250])

    def test_answer_is_a_new_list_of_whole_numbers(self):
        for arguments, length in (((4, TWO), 2), ((0, []), 2), ((18, TWO), 2), ((19, TWO), 1), ((100, TWO), 1)):
            answer = property_range(*arguments)
            self.assertIs(type(answer), list)
            self.assertEqual([type(number) for number in answer], [int] * length)
            answer.append(5)
            self.assertEqual(property_range(*arguments), answer[:-1])


class Edges(unittest.TestCase):
    def test_quantity_0(self):
        self.assertEqual(property_range(0, []), [0, 0])
        self.assertEqual(property_range(0, [9, 5, 7]), [0, 0])
        self.assertEqual(property_range(0, [0, 5, 7]), [0, 0])
        self.assertEqual(property_range(0, [9, 5, 7, 9, 5, 3, 9, 5, 1, 9, 5, 8]), [0, 0])

    def test_no_components(self):
        for quantity in (1, 2, 99):
            self.assertEqual(property_range(quantity, []), [-33])

    def test_nothing_there(self):
        self.assertEqual(property_range(1, [0, 5, 7]), [-33])
        self.assertEqual(property_range(1, [0, 5, 7, 0, 5, 3, 0, 5, 1, 0, 5, 8]), [-33])

    def test_equal_properties(self):
        self.assertEqual(property_range(7, [5, 1, 4, 5, 2, 4]), [28, 28])
        self.assertEqual(property_range(7, [5, 1, 4, 3, 9, 6, 5, 2, 4]), [28, 34])
        self.assertEqual(property_range(7, [5, 1, 4, 3, 9, 2, 5, 2, 4]), [22, 28])
        # Of two with the same property the amount decides nothing.
        self.assertEqual(property_range(4, [3, 1, 4, 2, 1, 4, 1, 1, 5, 1, 1, 2]), [14, 17])

    def test_component_of_which_nothing_is_there(self):
        self.assertEqual(property_range(4, [0, 1, 0, 9, 5, 3, 0, 1, 99]), [12, 12])
        self.assertEqual(property_range(4, [9, 5, 3, 0, 1, 9, 0, 1, 2, 2, 5, 4]), [12, 14])

    def test_property_0(self):
        self.assertEqual(property_range(4, [9, 1, 0]), [0, 0])
        self.assertEqual(property_range(4, [9, 1, 0, 9, 1, 0]), [0, 0])
        self.assertEqual(property_range(4, [3, 1, 0, 9, 1, 5]), [5, 20])
        self.assertEqual(property_range(4, [9, 1, 0, 3, 1, 5]), [0, 15])

    def test_component_taken_in_part(self):
        components = [3, 1, 2, 3, 1, 5]
        answers = [property_range(quantity, components) for quantity in range(7)]
        self.assertEqual(answers, [[0, 0], [2, 5], [4, 10], [6, 15], [11, 17], [16, 19], [21, 21]])


class HowMuchIsThere(unittest.TestCase):
    def test_one_less_than_the_quantity_equal_to_it_and_one_more(self):
        for components in ([7, 1, 3], [4, 1, 3, 3, 1, 3], [2, 1, 3, 0, 1, 9, 5, 1, 3], [1, 1, 3, 2, 1, 3] * 2):
            available = sum(components[0::3])
            self.assertEqual(property_range(available + 1, components), [-33])
            self.assertEqual(property_range(available, components), [3 * available] * 2)
            self.assertEqual(property_range(available - 1, components), [3 * available - 3] * 2)

    def test_all_of_it_leaves_no_choice(self):
        self.assertEqual(property_range(19, TWO), [-33])
        self.assertEqual(property_range(18, TWO), [54, 54])
        self.assertEqual(property_range(17, TWO), [49, 53])
        components = [2, 1, 8, 3, 9, 3, 4, 5, 6, 1, 0, 9]
        self.assertEqual(property_range(11, components), [-33])
        self.assertEqual(property_range(10, components), [58, 58])
        self.assertEqual(property_range(9, components), [49, 55])

    def test_greatest_quantity(self):
        self.assertEqual(property_range(99, [50, 1, 1, 48, 1, 2]), [-33])
        self.assertEqual(property_range(99, [50, 1, 1, 49, 1, 2]), [148, 148])
        self.assertEqual(property_range(99, [50, 1, 1, 50, 1, 2]), [148, 149])


class Limits(unittest.TestCase):
    def test_quantity(self):
        components = [50, 1, 7, 50, 2, 8]
        self.assertEqual(property_range(98, components), [734, 736])
        self.assertEqual(property_range(99, components), [742, 743])
        for quantity, valid in oracle.quantities_at_limits():
            for given in ([], [5, 1, 3], components, [50, 99, 99] * 2):
                with self.subTest(quantity=quantity, components=given):
                    self.assertEqual(property_range(quantity, given), oracle.ranged(quantity, given) if valid else [-22])

    def test_components(self):
        for components, valid in oracle.components_at_limits():
            for quantity in (0, 1, 3, 50, 99):
                with self.subTest(quantity=quantity, components=components):
                    expected = oracle.ranged(quantity, components) if valid else [-22]
                    self.assertEqual(property_range(quantity, components), expected)

    def test_limits_go_ahead_of_too_little(self):
        self.assertEqual(property_range(99, []), [-33])
        self.assertEqual(property_range(100, []), [-22])
        self.assertEqual(property_range(99, [1, 1, 1]), [-33])
        self.assertEqual(property_range(oracle.GREATEST_NUMBER, [1, 1, 1]), [-22])
        self.assertEqual(property_range(9, [1, 1, 100]), [-22])
        self.assertEqual(property_range(9, [1, 100, 1]), [-22])
        self.assertEqual(property_range(9, [1, 1]), [-22])
        self.assertEqual(property_range(9, [1, 1, 1] * 5), [-22])

    def test_greatest_numbers_all_at_once(self):
        self.assertEqual(property_range(99, [50, 99, 99] * 4), [9801, 9801])


class Purity(unittest.TestCase):
    def test_components_stay_as_they_were_and_answers_repeat(self):
        for quantity, components in ((4, [9, 5, 1, 9, 7, 5]), (12, [9, 7, 5, 9, 5, 1]), (19, [9, 5, 1, 9, 7, 5]),
                                     (6, [2, 1, 8, 3, 9, 3, 4, 5, 6, 1, 0, 9]), (100, [9, 5, 1]), (4, [9, 5, 100]),
                                     (4, [9, 5]), (0, [])):
            before = list(components)
            first = property_range(quantity, components)
            property_range(7, [9, 1, 0, 9, 2, 3])
            self.assertEqual(components, before)
            self.assertEqual(property_range(quantity, components), first)
            self.assertEqual(components, before)


class AgainstTheOracle(unittest.TestCase):
    kinds = [(0, 1, 2), (1, 3, 0), (2, 1, 5), (3, 2, 1), (3, 2, 5), (4, 0, 7)]

    def instances(self, count):
        for parts in product(self.kinds, repeat=count):
            yield [number for part in parts for number in part]

    def test_up_to_three_components_with_all_quantities(self):
        for count in range(4):
            for components in self.instances(count):
                self.agree(range(100), components)

    def test_four_components(self):
        for start in range(3):
            for parts in product(self.kinds[start:start + 3], repeat=4):
                self.agree(range(18), [number for part in parts for number in part])

    def agree(self, quantities, components):
        totals = oracle.property_totals(components)
        for quantity in quantities:
            answer = property_range(quantity, components)
            if answer != list(totals.get(quantity, [-33])):
                self.fail(f"{(quantity, components)}: {answer}")

    def test_no_choice_of_halves_or_thirds_lies_outside(self):
        for count, den in product(range(4), (2, 3)):
            for components in self.instances(count):
                numerators = [range(den * most + 1) for most in components[0::3]]
                totals = {}
                for amounts in product(*numerators):
                    total = sum(x * a for x, a in zip(amounts, components[2::3]))
                    totals.setdefault(sum(amounts), set()).add(total)
                for quantity in range(sum(components[0::3]) + 1):
                    reached = totals[den * quantity]
                    self.assertEqual(
                        [den * total for total in property_range(quantity, components)],
                        [min(reached), max(reached)],
                    )


if __name__ == "__main__":
    unittest.main()
