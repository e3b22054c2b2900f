"""Tests of predict_combination."""

import itertools
import unittest
from fractions import Fraction

from pairblend.responses import predict, predict_combination
from tests.cases import (
    FOUR_BINARY,
    FOUR_PURE,
    PAIR_COUNTS,
    CallChecks,
    defined_response,
    fractions_of,
    rational,
    sweep,
    with_element,
    wrong_mixtures,
    wrong_responses,
)

WRONG_PROPORTIONS = (0, 100, 101, 255, 256, 257, 65536, 65537, 2147483648, 2147483649, 4294967295)

PROPORTIONS = ((1, 1), (1, 2), (2, 1), (3, 7), (99, 98), (1, 99), (99, 1), (99, 99))


class CombinationCase(unittest.TestCase):
    def check(self, k, m, pure, binary, first, second, answer):
        with self.subTest(k=k, m=m, pure=pure, binary=binary, first=first, second=second):
            found = predict_combination(k, m, list(pure), list(binary), list(first), list(second))
            self.assertEqual(found, answer)

    def check_refused(self, k, m, pure, binary, first, second):
        self.check(k, m, pure, binary, first, second, [-22])


class OrdinaryCombinations(CombinationCase):
    def test_one_component(self):
        for number in (-999, -8, 0, 7, 999):
            for k, m in PROPORTIONS:
                self.check(k, m, [number], [], [1], [1], [0, number, 1, number, 1])
                self.check(k, m, [number], [], [2], [99], [0, number, 1, number, 1])

    def test_two_components(self):
        # The interaction is 12. Of [1, 1] the fractions are 1/2 and 1/2, the response is 18;
        # of [0, 3] the fractions are 0 and 1, the response is 20.
        # Fractions 1/6 and 5/6: 10/6 + 100/6 + 12 * 5/36; (18 + 2 * 20)/3
        self.check(1, 2, [10, 20], [18], [1, 1], [0, 3], [0, 20, 1, 58, 3])
        # Fractions 1/3 and 2/3: 10/3 + 40/3 + 12 * 2/9; (2 * 18 + 20)/3
        self.check(2, 1, [10, 20], [18], [1, 1], [0, 3], [0, 58, 3, 56, 3])
        # The same with the two mixtures in each other's place.
        self.check(2, 1, [10, 20], [18], [0, 3], [1, 1], [0, 20, 1, 58, 3])
        self.check(1, 2, [10, 20], [18], [0, 3], [1, 1], [0, 58, 3, 56, 3])

    def test_two_components_with_other_sums(self):
        # Fractions (3 * 1/4 + 1)/4 = 7/16 and 9/16: 250/16 + 12 * 63/256 = 4756/256.
        # The response of [1, 3] is 79/4: (3 * 79/4 + 10)/4.
        self.check(3, 1, [10, 20], [18], [1, 3], [2, 0], [0, 1189, 64, 277, 16])

    def test_three_components(self):
        # The interactions are 6, -30, 20.
        pure = [1, 2, 4]
        binary = [3, -5, 8]
        # Fractions 1/3, 1/3, 1/3: 7/3 - 4/9; (1 + 2 * 8)/3
        self.check(1, 2, pure, binary, [1, 0, 0], [0, 1, 1], [0, 17, 9, 17, 3])
        # Fractions 3/8, 3/8, 2/8: 17/8 + (6 * 9 - 30 * 6 + 20 * 6)/64 = 130/64; (3 * 3 + 4)/4
        self.check(3, 1, pure, binary, [1, 1, 0], [0, 0, 5], [0, 65, 32, 13, 4])

    def test_four_components(self):
        # Fractions 1/4 each: 12/4 - 60/16; (7 - 6)/2
        self.check(1, 1, FOUR_PURE, FOUR_BINARY, [1, 1, 0, 0], [0, 0, 2, 2], [0, -3, 4, 1, 2])
        # Fractions 4/10, 1/10, 2/10, 3/10: 39/10 - 450/100 = -60/100.
        # The responses are 5 and 19/6 - 250/36 = -34/9: (2 * 5 - 3 * 34/9)/5.
        self.check(2, 3, FOUR_PURE, FOUR_BINARY, [2, 0, 0, 0], [0, 1, 2, 3], [0, -3, 5, -4, 15])

    def test_mixtures_of_pure_components_show_the_proportion(self):
        # The combination of components 0 and 1 is the mixture of k and m parts.
        for k, m in PROPORTIONS:
            response = predict([10, 20], [18], [k, m])
            mean = rational(Fraction(10 * k + 20 * m, k + m))
            self.check(k, m, [10, 20], [18], [1, 0], [0, 1], response + mean)
            self.check(k, m, [10, 20], [18], [5, 0], [0, 99], response + mean)


class ToldCombinations(CombinationCase):
    def test_mixture_with_itself(self):
        mixtures = ([1, 2, 3, 4], [4, 3, 2, 1], [1, 1, 1, 1], [1, 1, 2, 0], [0, 0, 0, 99])
        for mixture in mixtures:
            answer = predict(FOUR_PURE, FOUR_BINARY, mixture)
            for k, m in PROPORTIONS:
                self.check(k, m, FOUR_PURE, FOUR_BINARY, mixture, mixture, answer + answer[1:])

    def test_mixture_with_itself_worked_out(self):
        # The response of [1, 2] is 58/3, that of [1, 2, 3, 4] is -13/5.
        for k, m in PROPORTIONS:
            self.check(k, m, [10, 20], [18], [1, 2], [1, 2], [0, 58, 3, 58, 3])
            self.check(k, m, FOUR_PURE, FOUR_BINARY, [1, 2, 3, 4], [1, 2, 3, 4], [0, -13, 5, -13, 5])

    def test_mixture_with_itself_in_other_parts(self):
        for k, m in PROPORTIONS:
            self.check(k, m, [10, 20], [18], [1, 2], [33, 66], [0, 58, 3, 58, 3])
            self.check(k, m, FOUR_PURE, FOUR_BINARY, [2, 4, 6, 8], [3, 6, 9, 12], [0, -13, 5, -13, 5])

    def test_two_pure_components_half_and_half(self):
        for share in (1, 2, 50, 99):
            pairs = itertools.combinations(range(4), 2)
            for (i, j), response in zip(pairs, FOUR_BINARY):
                first = with_element([0] * 4, i, 1)
                second = with_element([0] * 4, j, 7)
                mean = rational(Fraction(FOUR_PURE[i] + FOUR_PURE[j], 2))
                self.check(share, share, FOUR_PURE, FOUR_BINARY, first, second, [0, response, 1] + mean)
                self.check(share, share, FOUR_PURE, FOUR_BINARY, second, first, [0, response, 1] + mean)
        self.check(1, 1, [10, 20], [18], [1, 0], [0, 1], [0, 18, 1, 15, 1])
        self.check(1, 1, [10, 21], [-7], [3, 0], [0, 2], [0, -7, 1, 31, 2])

    def test_parts_that_have_the_same_fractions(self):
        # Fractions 3/8, 3/8, 2/8, whatever the sums of the parts are.
        for factor, other in itertools.product((1, 2, 7, 99), repeat=2):
            first = [factor, factor, 0]
            second = [0, 0, other]
            self.check(3, 1, [1, 2, 4], [3, -5, 8], first, second, [0, 65, 32, 13, 4])

    def test_proportions_that_are_the_same(self):
        for factor in range(1, 34):
            k = 2 * factor
            m = 3 * factor
            answer = [0, -3, 5, -4, 15]
            self.check(k, m, FOUR_PURE, FOUR_BINARY, [2, 0, 0, 0], [0, 1, 2, 3], answer)


class Rationals(CombinationCase):
    def test_below_zero(self):
        # All signs turned round of [10, 20], [18].
        self.check(1, 2, [-10, -20], [-18], [1, 1], [0, 3], [0, -20, 1, -58, 3])
        self.check(2, 1, [-10, -20], [-18], [1, 1], [0, 3], [0, -58, 3, -56, 3])
        self.check(3, 1, [-10, -20], [-18], [1, 3], [2, 0], [0, -1189, 64, -277, 16])

    def test_one_below_zero_and_one_above(self):
        self.check(1, 1, FOUR_PURE, FOUR_BINARY, [1, 1, 0, 0], [0, 0, 2, 2], [0, -3, 4, 1, 2])
        self.check(1, 1, [3, -8], [5], [1, 0], [0, 1], [0, 5, 1, -5, 2])

    def test_zero_is_zero_over_one(self):
        self.check(3, 4, [0], [], [5], [6], [0, 0, 1, 0, 1])
        self.check(1, 1, [1, -1], [0], [1, 0], [0, 1], [0, 0, 1, 0, 1])
        # The response alone is 0, or the mean alone.
        self.check(1, 1, [1, 1], [0], [1, 0], [0, 1], [0, 0, 1, 1, 1])
        self.check(1, 1, [3, -3], [5], [1, 0], [0, 1], [0, 5, 1, 0, 1])
        # Fractions 2/3 and 1/3: 6/3 - 6/3 + 6 * 2/9; (2 * 3 - 6)/3
        self.check(2, 1, [3, -6], [0], [9, 0], [0, 4], [0, 4, 3, 0, 1])

    def test_nothing_to_cancel(self):
        # Fractions 1/3 and 2/3: 2/3 - 2 * 2/9; 2/3
        self.check(1, 2, [0, 1], [0], [1, 0], [0, 1], [0, 2, 9, 2, 3])
        # Fractions 2/5 and 3/5: 3/5 - 2 * 6/25; 3/5
        self.check(2, 3, [0, 1], [0], [1, 0], [0, 1], [0, 3, 25, 3, 5])

    def test_something_to_cancel(self):
        # Without interaction, with 3/8 of component 1: 12/8.
        self.check(1, 1, [0, 4], [2], [3, 1], [1, 1], [0, 3, 2, 3, 2])
        # Every mixture has the response 4.
        self.check(5, 5, [4, 4], [4], [5, 5], [2, 3], [0, 4, 1, 4, 1])
        # Fractions 1/4 and 3/4: 3/4 + 2 * 3/16 = 18/16; 6/8
        self.check(2, 6, [0, 1], [1], [2, 0], [0, 2], [0, 9, 8, 3, 4])
        # Fractions 1/2 and 1/2: 4 * 1/4; the response of [1, 2] and of [2, 1] is 4 * 2/9.
        self.check(4, 4, [0, 0], [1], [1, 2], [2, 1], [0, 1, 1, 8, 9])

    def test_alike_without_interactions(self):
        # 10 * x + 20 * y + 40 * z: every response is the mean.
        pure = [10, 20, 40]
        binary = [15, 25, 30]
        self.check(1, 2, pure, binary, [1, 0, 0], [0, 1, 1], [0, 70, 3, 70, 3])
        self.check(5, 3, pure, binary, [1, 1, 0], [0, 0, 1], [0, 195, 8, 195, 8])
        for first, second in itertools.product(itertools.product((0, 1, 3), repeat=3), repeat=2):
            if sum(first) > 0 and sum(second) > 0:
                answer = predict_combination(2, 7, pure, binary, list(first), list(second))
                self.assertEqual(answer[1:3], answer[3:])


class Definition(CombinationCase):
    """Against "Combination" and the mean response, followed word by word in fractions."""

    def check_definition(self, k, m, pure, binary, first, second):
        x = fractions_of(first)
        y = fractions_of(second)
        combination = [(k * x[i] + m * y[i]) / (k + m) for i in range(len(pure))]
        response = defined_response(pure, binary, combination)
        first_response = defined_response(pure, binary, x)
        second_response = defined_response(pure, binary, y)
        mean = (k * first_response + m * second_response) / (k + m)
        self.check(k, m, pure, binary, first, second, [0] + rational(response) + rational(mean))

    def test_many_combinations(self):
        turns = sweep(500)
        for distance in (1, 2):
            for turn, (case, other) in enumerate(zip(turns, turns[distance:])):
                pure, binary, first = case
                second = other[2]
                if len(first) == len(second):
                    self.check_definition(1 + turn * 7 % 99, 1 + turn * 31 % 98, pure, binary, first, second)

    def test_every_small_combination(self):
        mixtures = [list(parts) for parts in itertools.product(range(4), repeat=2) if sum(parts) > 0]
        for first, second in itertools.product(mixtures, repeat=2):
            for k, m in itertools.product((1, 2, 3), repeat=2):
                self.check_definition(k, m, [10, 20], [18], first, second)

    def test_every_proportion(self):
        for share in range(1, 100):
            self.check_definition(share, 7, [1, 2, 4], [3, -5, 8], [1, 2, 0], [0, 1, 4])
            self.check_definition(7, share, [1, 2, 4], [3, -5, 8], [1, 2, 0], [0, 1, 4])
            self.check_definition(share, 100 - share, FOUR_PURE, FOUR_BINARY, [1, 0, 0, 2], [0, 1, 2, 1])

    def test_every_number_of_parts(self):
        for parts in range(100):
            self.check_definition(2, 5, [10, 20], [18], [1, parts], [3, 2])
            self.check_definition(2, 5, [10, 20], [18], [3, 2], [parts, 1])

    def test_every_response(self):
        for response in range(-999, 1000):
            self.check_definition(2, 3, [response, 20], [18], [2, 1], [0, 1])
            self.check_definition(2, 3, [10, 20], [response], [2, 1], [0, 1])


class Edges(CombinationCase):
    def test_smallest_and_largest_proportions(self):
        # 10 * 1/100 + 20 * 99/100 + 12 * 99/10000; (10 + 99 * 20)/100
        self.check(1, 99, [10, 20], [18], [1, 0], [0, 1], [0, 50047, 2500, 199, 10])
        # 10 * 99/100 + 20 * 1/100 + 12 * 99/10000; (99 * 10 + 20)/100
        self.check(99, 1, [10, 20], [18], [1, 0], [0, 1], [0, 25547, 2500, 101, 10])
        self.check(99, 99, [10, 20], [18], [1, 0], [0, 1], [0, 18, 1, 15, 1])

    def test_fewest_and_most_parts(self):
        self.check(1, 1, [10, 20], [18], [99, 0], [0, 99], [0, 18, 1, 15, 1])
        self.check(1, 1, [10, 20], [18], [99, 0], [0, 1], [0, 18, 1, 15, 1])
        self.check(1, 1, [10, 20], [18], [1, 0], [0, 99], [0, 18, 1, 15, 1])
        # Fractions 99/394 and 295/394: 2714660/155236 + 350460/155236; (99 * 18 + 98 * 20)/197
        self.check(99, 98, [10, 20], [18], [99, 99], [0, 99], [0, 766280, 38809, 3742, 197])
        # All parts alike: fractions 1/4 each.
        self.check(99, 1, FOUR_PURE, FOUR_BINARY, [99] * 4, [1] * 4, [0, -3, 4, -3, 4])

    def test_all_responses_alike(self):
        for number in (-999, 999):
            for count, pair_count in PAIR_COUNTS.items():
                for k, m in PROPORTIONS:
                    first = [99] * count
                    second = [0] * (count - 1) + [1]
                    answer = [0, number, 1, number, 1]
                    self.check(k, m, [number] * count, [number] * pair_count, first, second, answer)

    def test_pure_and_binary_far_apart(self):
        # The interactions are 7992, with fractions 1/4 each -999 + 7992 * 6/16 = 1998.
        self.check(1, 1, [-999] * 4, [999] * 6, [1, 1, 0, 0], [0, 0, 1, 1], [0, 1998, 1, 999, 1])
        self.check(1, 1, [999] * 4, [-999] * 6, [1, 1, 0, 0], [0, 0, 1, 1], [0, -1998, 1, -999, 1])
        # The responses are -999 and -999 + 7992 * 3/9 = 1665: (-999 + 3 * 1665)/4.
        self.check(1, 3, [-999] * 4, [999] * 6, [99, 0, 0, 0], [0, 99, 99, 99], [0, 1998, 1, 999, 1])

    def test_one_element_at_its_edge(self):
        for number in (-999, -998, 998, 999):
            for place in range(4):
                pure = with_element([0] * 4, place, number)
                alone = with_element([0] * 4, place, 1)
                self.check(5, 3, pure, [0] * 6, alone, alone, [0, number, 1, number, 1])
            for place, (i, j) in enumerate(itertools.combinations(range(4), 2)):
                binary = with_element([0] * 6, place, number)
                first = with_element([0] * 4, i, 1)
                second = with_element([0] * 4, j, 1)
                self.check(1, 1, [0] * 4, binary, first, second, [0, number, 1, 0, 1])


class Refusals(CombinationCase):
    def test_wrong_proportions(self):
        for count, pair_count in PAIR_COUNTS.items():
            for wrong in WRONG_PROPORTIONS:
                for right in (1, 50, 99):
                    ones = [1] * count
                    self.check_refused(wrong, right, ones, [2] * pair_count, ones, ones)
                    self.check_refused(right, wrong, ones, [2] * pair_count, ones, ones)
                self.check_refused(wrong, wrong, ones, [2] * pair_count, ones, ones)

    def test_wrong_mixtures(self):
        for count, pair_count in PAIR_COUNTS.items():
            for wrong in wrong_mixtures(count):
                ones = [1] * count
                self.check_refused(1, 2, ones, [2] * pair_count, wrong, ones)
                self.check_refused(1, 2, ones, [2] * pair_count, ones, wrong)
                self.check_refused(1, 2, ones, [2] * pair_count, wrong, wrong)

    def test_wrong_mixtures_that_would_do_together(self):
        # Together there are parts of each component, and as many elements as are due.
        self.check_refused(1, 1, [10, 20], [18], [1], [0, 1, 0])
        self.check_refused(1, 1, [10, 20], [18], [1, 1, 0], [1])
        self.check_refused(1, 1, [10, 20], [18], [0, 0], [1, 1])
        self.check_refused(1, 1, [10, 20], [18], [1, 1], [0, 0])

    def test_pure_or_binary_outside_the_limits(self):
        for pure, binary in wrong_responses():
            ones = [1] * len(pure)
            self.check_refused(1, 2, pure, binary, ones, ones)

    def test_wrong_elements_of_components_without_parts(self):
        self.check_refused(1, 2, [1, 1000], [1], [1, 0], [2, 0])
        self.check_refused(1, 2, [1, 1], [-1000], [1, 0], [2, 0])
        self.check_refused(1, 2, [1, 1, 1], [1, 1, 1000], [1, 0, 0], [2, 0, 0])

    def test_several_at_once(self):
        for pure, binary in wrong_responses():
            zeros = [0] * len(pure)
            ones = [1] * len(pure)
            self.check_refused(0, 100, pure, binary, ones, ones)
            self.check_refused(1, 1, pure, binary, zeros, ones)
            self.check_refused(1, 1, pure, binary, ones, [100] * len(pure))
            self.check_refused(1, 0, pure, binary, [], zeros)
        self.check_refused(0, 1, [10, 20], [18], [0, 0], [1, 1])
        self.check_refused(1, 100, [10, 20], [18], [1, 1], [1])
        self.check_refused(0, 0, [], [], [], [])
        big = 4294967295
        self.check_refused(big, big, [-2147483648] * 6, [2147483647] * 8, [big] * 6, [big] * 6)


class Calls(CallChecks, unittest.TestCase):
    FUNCTION = staticmethod(predict_combination)
    CALLS = (
        (1, 2, [10, 20], [18], [1, 1], [0, 3]),
        (2, 3, FOUR_PURE, FOUR_BINARY, [2, 0, 0, 0], [0, 1, 2, 3]),
        (3, 1, [1, 2, 4], [3, -5, 8], [1, 1, 0], [0, 0, 5]),
        (5, 6, [7], [], [3], [4]),
        (0, 2, [10, 20], [18], [1, 1], [0, 3]),
        (1, 2, [10, 20], [18], [0, 0], [0, 3]),
        (1, 2, [10, 20], [18], [1, 1], [100, 3]),
        (1, 2, [10, 1000], [18], [1, 1], [0, 3]),
        (1, 2, [], [18] * 8, [4294967295] * 6, []),
    )

    def test_one_list_as_several_arguments(self):
        numbers = [10, 20]
        # Both mixtures are [1, 2] in other parts.
        self.assertEqual(predict_combination(1, 2, numbers, [18], numbers, numbers), [0, 58, 3, 58, 3])
        self.assertEqual(numbers, [10, 20])

    def test_arguments_changed_by_the_caller_count(self):
        pure = [10, 20]
        binary = [18]
        first = [1, 1]
        second = [0, 3]
        self.assertEqual(predict_combination(2, 1, pure, binary, first, second), [0, 58, 3, 56, 3])
        first[0] = 0
        self.assertEqual(predict_combination(2, 1, pure, binary, first, second), [0, 20, 1, 20, 1])
        second[1] = 0
        self.assertEqual(predict_combination(2, 1, pure, binary, first, second), [-22])
        second[0] = 5
        self.assertEqual(predict_combination(1, 1, pure, binary, first, second), [0, 18, 1, 15, 1])
        binary[0] = 30
        self.assertEqual(predict_combination(1, 1, pure, binary, first, second), [0, 30, 1, 15, 1])

    def test_arguments_by_their_names(self):
        answer = predict_combination(k=2, m=1, pure=[10, 20], binary=[18], first=[1, 1], second=[0, 3])
        self.assertEqual(answer, [0, 58, 3, 56, 3])


if __name__ == "__main__":
    unittest.main()
