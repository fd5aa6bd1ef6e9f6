import unittest
from itertools import product

from meanblend.blending import check_blend
from tests import oracle

GREATEST_NUMBER = 4294967295
TWO = [9, 5, 1, 9, 7, 5]


class OrdinaryBlends(unittest.TestCase):
    def test_example_of_the_document(self):
        self.assertEqual(check_blend(4, 2, 3, 1, TWO, [2, 2]), [1, 24, 1, 12, 1])

    def test_one_component(self):
        self.assertEqual(check_blend(3, 2, 4, 1, [5, 7, 3], [3]), [1, 21, 1, 9, 1])
        self.assertEqual(check_blend(3, 2, 4, 1, [5, 7, 3], [2]), [0, 14, 1, 6, 1])

    def test_amounts_over_a_denominator(self):
        self.assertEqual(check_blend(1, 2, 5, 4, TWO, [3, 1]), [1, 11, 2, 2, 1])
        self.assertEqual(check_blend(1, 2, 5, 3, TWO, [2, 1]), [1, 17, 3, 7, 3])
        self.assertEqual(check_blend(1, 3, 5, 3, TWO, [2, 1]), [0, 17, 3, 7, 3])

    def test_lowest_terms(self):
        self.assertEqual(check_blend(1, 2, 5, 12, TWO, [9, 3]), [1, 11, 2, 2, 1])
        self.assertEqual(check_blend(4, 2, 3, 6, TWO, [12, 12]), [1, 24, 1, 12, 1])
        self.assertEqual(check_blend(4, 2, 3, 99, TWO, [66, 33]), [0, 17, 3, 7, 3])

    def test_zero_is_0_over_1(self):
        self.assertEqual(check_blend(1, 0, 5, 7, [9, 0, 3, 9, 0, 1], [2, 5]), [1, 0, 1, 11, 7])
        self.assertEqual(check_blend(1, 0, 5, 7, [9, 3, 0, 9, 1, 0], [2, 5]), [1, 11, 7, 0, 1])
        self.assertEqual(check_blend(1, 0, 5, 99, TWO, [0, 0]), [0, 0, 1, 0, 1])

    def test_three_and_four_components(self):
        # 2 + 3/2 + 1/2 is 4; cost 2 + 6 + 5/2; property 12 + 3/2.
        self.assertEqual(check_blend(4, 3, 4, 2, [2, 1, 6, 9, 4, 1, 1, 5, 0], [4, 3, 1]), [1, 21, 2, 27, 2])
        self.assertEqual(
            check_blend(4, 3, 4, 2, [2, 1, 6, 9, 4, 1, 1, 5, 0, 3, 3, 3], [4, 3, 1, 1]),
            [0, 12, 1, 15, 1],
        )

    def test_answer_is_a_new_list_of_whole_numbers(self):
        for arguments in ((4, 2, 3, 1, TWO, [2, 2]), (4, 2, 3, 1, TWO, [2, 1]), (4, 2, 3, 0, TWO, [2, 2])):
            answer = check_blend(*arguments)
            self.assertIs(type(answer), list)
            self.assertEqual({type(number) for number in answer}, {int})
            answer.append(5)
            self.assertEqual(check_blend(*arguments), answer[:-1])


class Reasons(unittest.TestCase):
    """Each reason by itself, just met and just missed."""

    def test_amount_available(self):
        components = [2, 1, 3, 9, 2, 3]
        self.assertEqual(check_blend(5, 3, 3, 1, components, [2, 3]), [1, 8, 1, 15, 1])
        self.assertEqual(check_blend(5, 3, 3, 1, components, [3, 2]), [0, 7, 1, 15, 1])
        self.assertEqual(check_blend(5, 3, 3, 99, components, [198, 297]), [1, 8, 1, 15, 1])
        self.assertEqual(check_blend(5, 3, 3, 99, components, [199, 296]), [0, 791, 99, 15, 1])

    def test_amount_available_of_the_last_component(self):
        components = [9, 1, 3, 9, 1, 3, 9, 1, 3, 2, 1, 3]
        self.assertEqual(check_blend(5, 3, 3, 10, components, [10, 10, 10, 20]), [1, 5, 1, 15, 1])
        self.assertEqual(check_blend(5, 3, 3, 10, components, [10, 10, 9, 21]), [0, 5, 1, 15, 1])

    def test_amounts_add_up_to_the_quantity(self):
        components = [9, 1, 0, 9, 2, 0]
        self.assertEqual(check_blend(5, 0, 0, 1, components, [2, 3]), [1, 8, 1, 0, 1])
        self.assertEqual(check_blend(5, 0, 0, 1, components, [2, 2]), [0, 6, 1, 0, 1])
        self.assertEqual(check_blend(5, 0, 0, 1, components, [2, 4]), [0, 10, 1, 0, 1])
        self.assertEqual(check_blend(5, 0, 0, 99, components, [198, 297]), [1, 8, 1, 0, 1])
        self.assertEqual(check_blend(5, 0, 0, 99, components, [198, 296]), [0, 790, 99, 0, 1])
        self.assertEqual(check_blend(5, 0, 0, 99, components, [198, 298]), [0, 794, 99, 0, 1])

    def test_property_total_at_least_low_times_quantity(self):
        self.assertEqual(check_blend(4, 2, 9, 1, TWO, [3, 1]), [1, 22, 1, 8, 1])
        self.assertEqual(check_blend(4, 2, 9, 99, TWO, [297, 99]), [1, 22, 1, 8, 1])
        self.assertEqual(check_blend(4, 2, 9, 99, TWO, [298, 98]), [0, 2176, 99, 788, 99])

    def test_property_total_at_most_high_times_quantity(self):
        self.assertEqual(check_blend(4, 0, 2, 1, TWO, [3, 1]), [1, 22, 1, 8, 1])
        self.assertEqual(check_blend(4, 0, 2, 99, TWO, [297, 99]), [1, 22, 1, 8, 1])
        self.assertEqual(check_blend(4, 0, 2, 99, TWO, [296, 100]), [0, 2180, 99, 796, 99])

    def test_property_total_within_equal_bounds(self):
        self.assertEqual(check_blend(4, 2, 2, 1, TWO, [3, 1]), [1, 22, 1, 8, 1])
        self.assertEqual(check_blend(4, 3, 3, 1, TWO, [3, 1]), [0, 22, 1, 8, 1])
        self.assertEqual(check_blend(4, 1, 1, 1, TWO, [3, 1]), [0, 22, 1, 8, 1])

    def test_all_reasons_at_once(self):
        self.assertEqual(check_blend(1, 0, 0, 1, TWO, [10, 10]), [0, 120, 1, 60, 1])


class Edges(unittest.TestCase):
    def test_quantity_0(self):
        self.assertEqual(check_blend(0, 2, 3, 5, TWO, [0, 0]), [1, 0, 1, 0, 1])
        self.assertEqual(check_blend(0, 2, 3, 5, TWO, [0, 1]), [0, 7, 5, 1, 1])
        self.assertEqual(check_blend(0, 0, 0, 1, [9, 0, 0], [1]), [0, 0, 1, 0, 1])

    def test_no_components(self):
        self.assertEqual(check_blend(0, 4, 9, 1, [], []), [1, 0, 1, 0, 1])
        self.assertEqual(check_blend(0, 4, 9, 99, [], []), [1, 0, 1, 0, 1])
        self.assertEqual(check_blend(1, 0, 9, 1, [], []), [0, 0, 1, 0, 1])

    def test_component_of_which_nothing_is_there(self):
        components = [0, 2, 3, 9, 4, 3]
        self.assertEqual(check_blend(2, 3, 3, 9, components, [0, 18]), [1, 8, 1, 6, 1])
        self.assertEqual(check_blend(2, 3, 3, 9, components, [1, 17]), [0, 70, 9, 6, 1])


class Limits(unittest.TestCase):
    def test_quantity(self):
        components = [50, 1, 0, 50, 1, 0]
        self.assertEqual(check_blend(99, 0, 0, 1, components, [50, 49]), [1, 99, 1, 0, 1])
        for quantity in (100, 101, GREATEST_NUMBER):
            self.assertEqual(check_blend(quantity, 0, 0, 1, components, [50, 50]), [-22])

    def test_low_and_high(self):
        components = [5, 1, 99]
        self.assertEqual(check_blend(1, 99, 99, 1, components, [1]), [1, 1, 1, 99, 1])
        self.assertEqual(check_blend(1, 0, 99, 1, components, [1]), [1, 1, 1, 99, 1])
        for low, high in ((0, 100), (99, 100), (100, 100), (100, 99), (0, GREATEST_NUMBER)):
            self.assertEqual(check_blend(1, low, high, 1, components, [1]), [-22])

    def test_low_at_most_high(self):
        self.assertEqual(check_blend(1, 3, 3, 1, [5, 1, 3], [1]), [1, 1, 1, 3, 1])
        self.assertEqual(check_blend(1, 4, 3, 1, [5, 1, 3], [1]), [-22])
        self.assertEqual(check_blend(0, 1, 0, 1, [], []), [-22])

    def test_numbers_of_each_component(self):
        for count in range(1, 5):
            for place in range(3 * count):
                most = (50, 99, 99)[place % 3]
                for number in (most, most + 1, GREATEST_NUMBER):
                    components = [1, 1, 1] * count
                    components[place] = number
                    with self.subTest(components=components):
                        answer = check_blend(0, 0, 9, 1, components, [0] * count)
                        self.assertEqual(answer, [1, 0, 1, 0, 1] if number == most else [-22])

    def test_length_of_components(self):
        for length in range(16):
            for count in range(7):
                with self.subTest(length=length, count=count):
                    answer = check_blend(0, 0, 0, 1, [0] * length, [0] * count)
                    valid = length == 3 * count and count <= 4
                    self.assertEqual(answer, [1, 0, 1, 0, 1] if valid else [-22])

    def test_den(self):
        self.assertEqual(check_blend(1, 0, 9, 1, TWO, [0, 1]), [1, 7, 1, 5, 1])
        self.assertEqual(check_blend(1, 0, 9, 99, TWO, [98, 1]), [1, 497, 99, 103, 99])
        for den in (0, 100, 101, GREATEST_NUMBER):
            self.assertEqual(check_blend(1, 0, 9, den, TWO, [98, 1]), [-22])
            self.assertEqual(check_blend(0, 0, 9, den, [], []), [-22])

    def test_numbers_of_the_blend(self):
        for count in range(1, 5):
            for place in range(count):
                blend = [0] * count
                blend[place] = 9999
                with self.subTest(blend=blend):
                    self.assertEqual(check_blend(1, 0, 9, 99, [1, 1, 2] * count, blend), [0, 101, 1, 202, 1])
                    for number in (10000, GREATEST_NUMBER):
                        blend[place] = number
                        self.assertEqual(check_blend(1, 0, 9, 99, [1, 1, 2] * count, blend), [-22])

    def test_length_of_the_blend(self):
        self.assertEqual(check_blend(4, 2, 3, 1, TWO, [4]), [-22])
        self.assertEqual(check_blend(4, 2, 3, 1, TWO, [2, 2, 0]), [-22])
        self.assertEqual(check_blend(0, 2, 3, 1, TWO, []), [-22])
        self.assertEqual(check_blend(0, 2, 3, 1, [], [0]), [-22])

    def test_greatest_numbers_all_at_once(self):
        self.assertEqual(
            check_blend(99, 99, 99, 1, [50, 99, 99] * 4, [9999] * 4),
            [0, 99 * 9999 * 4, 1, 99 * 9999 * 4, 1],
        )


class Purity(unittest.TestCase):
    def test_lists_stay_as_they_were_and_answers_repeat(self):
        for arguments in ((4, 2, 3, 1, [9, 5, 1, 9, 7, 5], [2, 2]), (4, 2, 3, 3, [9, 5, 1, 9, 7, 5], [12, 1]),
                          (4, 2, 3, 0, [9, 5, 1], [4]), (4, 2, 3, 1, [9, 5, 1], [4, 4]), (0, 0, 0, 1, [], [])):
            components, blend = arguments[4:]
            before = (list(components), list(blend))
            first = check_blend(*arguments)
            check_blend(7, 1, 2, 2, [9, 1, 0, 9, 2, 3], [5, 9])
            self.assertEqual((components, blend), before)
            self.assertEqual(check_blend(*arguments), first)
            self.assertEqual((components, blend), before)


class AgainstTheOracle(unittest.TestCase):
    kinds = [(0, 1, 2), (1, 3, 0), (2, 1, 5), (3, 2, 1)]

    def test_up_to_four_components(self):
        requests = list(product((0, 1, 3), (0, 2), (2, 4), (1, 2, 3)))
        for count in range(5):
            # All kinds in all orders up to two components; each kind once in its turn beyond.
            lists = product(self.kinds, repeat=count) if count <= 2 else [self.kinds[:count], self.kinds[-count:]]
            for parts in lists:
                components = [number for part in parts for number in part]
                for blend in product(range(5), repeat=count):
                    for quantity, low, high, den in requests:
                        self.agree(quantity, low, high, den, components, list(blend))

    def agree(self, *arguments):
        answer = check_blend(*arguments)
        if answer != oracle.checked(*arguments):
            self.fail(f"{arguments}: {answer}")


if __name__ == "__main__":
    unittest.main()
