import unittest
from itertools import product

from meanblend.blending import cheapest_blend, dual_bound
from tests import oracle

TWO = [9, 5, 1, 9, 7, 5]
LEAST_PRICE = -2147483648
GREATEST_PRICE = 2147483647


class OrdinaryBounds(unittest.TestCase):
    def test_example_of_the_document(self):
        self.assertEqual(dual_bound(4, 2, 3, TWO, [4, 0, 0]), [0, 16, 1])

    def test_one_component(self):
        # The gain is 8 - 7, there are 5 of it.
        self.assertEqual(dual_bound(3, 2, 4, [5, 7, 3], [8, 0, 0]), [0, 19, 1])
        self.assertEqual(dual_bound(3, 2, 4, [5, 7, 3], [7, 0, 0]), [1, 21, 1])

    def test_two_components_with_all_prices(self):
        # 10 * 4 + 3 * 2 * 4 - 1 * 3 * 4; the gains are 7 and 13.
        self.assertEqual(dual_bound(4, 2, 3, TWO, [10, 3, 1]), [0, 52 - 9 * 7 - 9 * 13, 1])

    def test_three_and_four_components(self):
        # 5 * 4 + 2 * 3 * 4 - 1 * 4 * 4 is 28; the gains are 10, 2, 0 and 5.
        self.assertEqual(dual_bound(4, 3, 4, [2, 1, 6, 9, 4, 1, 1, 5, 0], [5, 2, 1]), [0, -10, 1])
        self.assertEqual(dual_bound(4, 3, 4, [2, 1, 6, 9, 4, 1, 1, 5, 0, 3, 3, 3], [5, 2, 1]), [0, -25, 1])

    def test_bound_below_0_of_0_and_above_0(self):
        self.assertEqual(dual_bound(4, 2, 3, TWO, [-1, 0, 0]), [0, -4, 1])
        self.assertEqual(dual_bound(4, 2, 3, TWO, [0, 0, 0]), [0, 0, 1])
        self.assertEqual(dual_bound(4, 2, 3, TWO, [-2, 1, 0]), [0, 0, 1])
        self.assertEqual(dual_bound(4, 2, 3, TWO, [1, 0, 0]), [0, 4, 1])

    def test_answer_is_a_new_list_of_whole_numbers(self):
        for arguments in ((4, 2, 3, TWO, [4, 0, 0]), (4, 2, 3, TWO, [5, 0, 0]), (3, 2, 4, [5, 7, 3], [7, 0, 0]),
                          (4, 9, 9, TWO, [4, 0, 0]), (4, 2, 3, TWO, [4, 0]), (100, 2, 3, TWO, [4, 0, 0])):
            answer = dual_bound(*arguments)
            self.assertIs(type(answer), list)
            self.assertEqual({type(number) for number in answer}, {int})
            answer.append(5)
            self.assertEqual(dual_bound(*arguments), answer[:-1])


class EachPriceByItself(unittest.TestCase):
    def test_unit_price(self):
        self.assertEqual(dual_bound(4, 2, 3, TWO, [5, 0, 0]), [0, 20, 1])
        self.assertEqual(dual_bound(4, 2, 3, TWO, [6, 0, 0]), [0, 24 - 9, 1])
        self.assertEqual(dual_bound(4, 2, 3, TWO, [-6, 0, 0]), [0, -24, 1])

    def test_low_price(self):
        self.assertEqual(dual_bound(4, 2, 3, TWO, [0, 1, 0]), [0, 8, 1])
        # The gains are 2 - 5, so 0, and 10 - 7.
        self.assertEqual(dual_bound(4, 2, 3, TWO, [0, 2, 0]), [0, 16 - 9 * 3, 1])

    def test_high_price(self):
        self.assertEqual(dual_bound(4, 2, 3, TWO, [0, 0, 1]), [0, -12, 1])
        self.assertEqual(dual_bound(4, 2, 3, TWO, [0, 0, 7]), [0, -84, 1])

    def test_high_price_takes_from_the_gain(self):
        # The gains are 20 - 2 - 5 and 20 - 10 - 7.
        self.assertEqual(dual_bound(4, 2, 3, TWO, [20, 0, 2]), [0, 80 - 24 - 9 * 13 - 9 * 3, 1])


class Gains(unittest.TestCase):
    def test_gain_below_0_counts_as_0(self):
        self.assertEqual(dual_bound(1, 0, 9, [50, 99, 0], [1, 0, 0]), [0, 1, 1])
        self.assertEqual(dual_bound(1, 0, 9, [50, 2, 0], [1, 0, 0]), [0, 1, 1])

    def test_gain_of_0(self):
        self.assertEqual(dual_bound(2, 0, 9, [50, 2, 0], [2, 0, 0]), [1, 4, 1])

    def test_gain_above_0(self):
        self.assertEqual(dual_bound(2, 0, 9, [50, 2, 0], [3, 0, 0]), [0, 6 - 50, 1])

    def test_gain_below_0_takes_nothing_from_another(self):
        # The gains are 0, 3 and 0.
        self.assertEqual(dual_bound(2, 0, 9, [7, 9, 1, 4, 2, 1, 7, 50, 1], [5, 0, 0]), [0, 10 - 12, 1])

    def test_gain_of_a_component_of_which_nothing_is_there(self):
        self.assertEqual(dual_bound(2, 0, 9, [0, 0, 1], [5, 0, 0]), [0, 10, 1])
        self.assertEqual(dual_bound(2, 0, 9, [0, 0, 9, 4, 5, 1], [5, 0, 0]), [1, 10, 1])
        self.assertEqual(dual_bound(2, 0, 9, [4, 5, 1, 0, 0, 9], [5, 0, 0]), [1, 10, 1])


class IsTight(unittest.TestCase):
    def test_bound_is_the_cost(self):
        self.assertEqual(dual_bound(4, 0, 9, TWO, [5, 0, 0]), [1, 20, 1])
        self.assertEqual(dual_bound(4, 0, 9, TWO, [4, 0, 0]), [0, 16, 1])

    def test_bound_is_the_cost_after_gains(self):
        # All 3 of the free one, so its gain of 5 is paid back.
        self.assertEqual(dual_bound(4, 0, 9, [3, 0, 1, 9, 5, 2], [5, 0, 0]), [1, 5, 1])

    def test_bound_is_a_whole_cost_of_amounts_that_are_fractions(self):
        # 2/3 and 4/3 at the cost 7 and 4 with the property 0 and 6, mean 4.
        self.assertEqual(cheapest_blend(2, 4, 4, [2, 7, 0, 2, 4, 6]), [0, 10, 1, 2, 3, 4, 3])
        self.assertEqual(dual_bound(2, 4, 4, [2, 7, 0, 2, 4, 6], [5, 0, 0]), [0, 10 - 2, 1])
        self.assertEqual(dual_bound(2, 4, 4, [2, 5, 0, 2, 5, 6], [5, 0, 0]), [1, 10, 1])
        self.assertEqual(dual_bound(2, 4, 4, [2, 1, 0, 2, 7, 6], [1, 1, 0]), [1, 10, 1])

    def test_bound_is_the_cost_with_the_price_of_the_lower_bound(self):
        self.assertEqual(dual_bound(4, 2, 3, [9, 5, 1, 9, 9, 5], [4, 1, 0]), [1, 24, 1])

    def test_bound_is_the_cost_with_the_price_of_the_upper_bound(self):
        self.assertEqual(dual_bound(4, 2, 3, [9, 9, 1, 9, 5, 5], [10, 0, 1]), [1, 28, 1])

    def test_cost_of_0(self):
        self.assertEqual(dual_bound(4, 0, 9, [9, 0, 3], [0, 0, 0]), [1, 0, 1])
        self.assertEqual(dual_bound(4, 3, 9, [9, 0, 3], [-3, 1, 0]), [1, 0, 1])
        self.assertEqual(dual_bound(4, 0, 9, [9, 0, 3], [-1, 0, 0]), [0, -4, 1])

    def test_cost_is_a_true_fraction(self):
        # The cost is 11/2; 5 is what is left of it when it is cut to a whole number.
        self.assertEqual(cheapest_blend(1, 2, 5, TWO)[:3], [0, 11, 2])
        self.assertEqual(dual_bound(1, 2, 5, TWO, [5, 0, 0]), [0, 5, 1])
        self.assertEqual(dual_bound(1, 2, 5, TWO, [4, 0, 0]), [0, 4, 1])
        # The cost is 1/3.
        self.assertEqual(cheapest_blend(1, 2, 2, [9, 1, 0, 9, 0, 3])[:3], [0, 1, 3])
        self.assertEqual(dual_bound(1, 2, 2, [9, 1, 0, 9, 0, 3], [0, 0, 0]), [0, 0, 1])

    def test_no_blend_is_feasible(self):
        # Too little there; the bound rises above every cost all the same.
        self.assertEqual(dual_bound(19, 0, 9, TWO, [5, 0, 0]), [0, 95, 1])
        self.assertEqual(dual_bound(19, 0, 9, TWO, [0, 0, 0]), [0, 0, 1])
        self.assertEqual(dual_bound(19, 0, 9, TWO, [-5, 0, 0]), [0, -95, 1])
        self.assertEqual(dual_bound(19, 0, 9, TWO, [99, 0, 0]), [0, 19 * 99 - 9 * 94 - 9 * 92, 1])
        # The property out of reach, on either side.
        self.assertEqual(dual_bound(4, 6, 9, TWO, [4, 0, 0]), [0, 16, 1])
        self.assertEqual(dual_bound(4, 0, 0, TWO, [4, 0, 0]), [0, 16, 1])
        # A cost that would fit, of components for nothing, doesn't make it tight.
        self.assertEqual(dual_bound(4, 6, 9, [9, 0, 1], [0, 0, 0]), [0, 0, 1])


class Edges(unittest.TestCase):
    def test_quantity_0(self):
        self.assertEqual(dual_bound(0, 2, 3, TWO, [5, 0, 0]), [1, 0, 1])
        self.assertEqual(dual_bound(0, 2, 3, TWO, [-999, 0, 999]), [1, 0, 1])
        self.assertEqual(dual_bound(0, 2, 3, TWO, [6, 0, 0]), [0, -9, 1])

    def test_no_components(self):
        self.assertEqual(dual_bound(0, 2, 3, [], [7, 8, 9]), [1, 0, 1])
        self.assertEqual(dual_bound(3, 2, 4, [], [7, 8, 9]), [0, 21 + 48 - 108, 1])
        self.assertEqual(dual_bound(3, 2, 4, [], [0, 0, 0]), [0, 0, 1])


class Limits(unittest.TestCase):
    def test_limits_that_every_operation_looks_at(self):
        for request, valid in oracle.requests_at_limits():
            for prices in ([4, 1, 2], [-3, 0, 0]):
                with self.subTest(request=request, prices=prices):
                    expected = oracle.bounded(*request, prices) if valid else [-22]
                    self.assertEqual(dual_bound(*request, prices), expected)

    def test_number_of_prices(self):
        for length in range(6):
            with self.subTest(length=length):
                expected = [1, 20, 1] if length == 3 else [-22]
                self.assertEqual(dual_bound(4, 0, 9, TWO, [5, 0, 0, 0, 0][:length]), expected)
                self.assertEqual(dual_bound(0, 0, 0, [], [0] * length), [1, 0, 1] if length == 3 else [-22])

    def test_unit_price(self):
        self.assertEqual(dual_bound(4, 2, 3, [9, 5, 1], [-999, 0, 0]), [0, -3996, 1])
        self.assertEqual(dual_bound(4, 2, 3, [9, 5, 1], [999, 0, 0]), [0, 3996 - 9 * 994, 1])
        self.refuses(0, (-1000, 1000, LEAST_PRICE, GREATEST_PRICE))

    def test_low_price(self):
        self.assertEqual(dual_bound(4, 2, 3, [9, 5, 0], [0, 0, 0]), [0, 0, 1])
        self.assertEqual(dual_bound(4, 2, 3, [9, 5, 0], [0, 999, 0]), [0, 7992, 1])
        self.refuses(1, (-1, -2, -999, 1000, LEAST_PRICE, GREATEST_PRICE))

    def test_high_price(self):
        self.assertEqual(dual_bound(4, 2, 3, [9, 5, 0], [1, 0, 0]), [0, 4, 1])
        self.assertEqual(dual_bound(4, 2, 3, [9, 5, 0], [1, 0, 999]), [0, 4 - 11988, 1])
        self.refuses(2, (-1, -2, -999, 1000, LEAST_PRICE, GREATEST_PRICE))

    def refuses(self, place, numbers):
        for number in numbers:
            prices = [1, 1, 1]
            prices[place] = number
            with self.subTest(prices=prices):
                self.assertEqual(dual_bound(4, 2, 3, TWO, prices), [-22])
                self.assertEqual(dual_bound(0, 0, 0, [], prices), [-22])

    def test_prices_are_looked_at_where_no_blend_is_feasible(self):
        self.assertEqual(dual_bound(19, 0, 9, TWO, [1000, 0, 0]), [-22])
        self.assertEqual(dual_bound(19, 0, 9, TWO, [1, 0]), [-22])

    def test_greatest_numbers_all_at_once(self):
        components = [50, 0, 99] * 4
        self.assertEqual(dual_bound(99, 99, 99, components, [999, 999, 0]), [0, 99900 * 99 - 99900 * 200, 1])
        self.assertEqual(dual_bound(99, 99, 99, components, [-999, 0, 999]), [0, -99900 * 99, 1])


class Purity(unittest.TestCase):
    def test_lists_stay_as_they_were_and_answers_repeat(self):
        for request, prices in (((4, 2, 3, [9, 5, 1, 9, 7, 5]), [4, 0, 0]), ((1, 1, 1, [1, 9, 1, 1, 0, 0]), [-4, 5, 6]),
                                ((19, 0, 9, [9, 5, 1]), [9, 1, 0]), ((9, 0, 9, [1, 1, 100]), [1, 2, 3]),
                                ((9, 0, 9, [1, 1, 1]), [1, -2, 3]), ((9, 0, 9, [1, 1, 1]), [1, 2, 3, 4]),
                                ((0, 0, 0, []), [0, 0, 0])):
            before = (list(request[3]), list(prices))
            first = dual_bound(*request, prices)
            dual_bound(7, 1, 2, [9, 1, 0, 9, 2, 3], [8, 1, 2])
            self.assertEqual((request[3], prices), before)
            self.assertEqual(dual_bound(*request, prices), first)
            self.assertEqual((request[3], prices), before)


class AgainstTheOracle(unittest.TestCase):
    kinds = [(0, 1, 2), (1, 3, 0), (2, 1, 5), (3, 2, 1), (4, 0, 7)]

    def instances(self):
        for count in range(5):
            # All kinds in all orders up to two components; neighbours in their turn beyond.
            lists = product(self.kinds, repeat=count) if count <= 2 else [self.kinds[:count], self.kinds[-count:]]
            for parts in lists:
                yield [number for part in parts for number in part]

    def test_up_to_four_components(self):
        prices = [list(some) for some in product((-4, 0, 1, 2, 3), (0, 1, 3), (0, 1, 2))]
        for components in self.instances():
            for request in product((0, 1, 3), (0, 2), (2, 4)):
                for some in prices:
                    arguments = (*request, components, some)
                    answer = dual_bound(*arguments)
                    if answer != oracle.bounded(*arguments):
                        self.fail(f"{arguments}: {answer}")

    def test_no_feasible_blend_costs_less(self):
        prices = [list(some) for some in product(range(-9, 10, 3), (0, 1, 2, 5), (0, 1, 2, 5))]
        for components in self.instances():
            cheapest = cheapest_blend(3, 2, 4, components)
            if cheapest == [-33]:
                continue
            for some in prices:
                is_tight, bound, den = dual_bound(3, 2, 4, components, some)
                self.assertEqual(den, 1)
                self.assertLessEqual(bound * cheapest[2], cheapest[1])
                self.assertEqual(is_tight == 1, bound * cheapest[2] == cheapest[1])


if __name__ == "__main__":
    unittest.main()
