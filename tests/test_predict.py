"""Tests of predict."""

import itertools
import unittest
from fractions import Fraction

from pairblend.responses import predict
from tests.cases import (
    FOUR_BINARY,
    FOUR_PURE,
    PAIR_COUNTS,
    CallChecks,
    defined_response,
    fractions_of,
    rational,
    sweep,
    with_element,
    wrong_mixtures,
    wrong_responses,
)


class PredictCase(unittest.TestCase):
    def check(self, pure, binary, mixture, answer):
        with self.subTest(pure=pure, binary=binary, mixture=mixture):
            self.assertEqual(predict(list(pure), list(binary), list(mixture)), answer)

    def check_refused(self, pure, binary, mixture):
        self.check(pure, binary, mixture, [-22])


class OrdinaryMixtures(PredictCase):
    def test_examples_of_the_document(self):
        self.check([10, 20], [18], [1, 1], [0, 18, 1])
        self.check([10, 20], [18], [0, 0], [-22])

    def test_one_component(self):
        self.check([7], [], [1], [0, 7, 1])
        self.check([7], [], [3], [0, 7, 1])
        self.check([-8], [], [6], [0, -8, 1])
        self.check([0], [], [4], [0, 0, 1])

    def test_two_components(self):
        # The interaction is 4 * 18 - 2 * (10 + 20) = 12.
        # 10 * 1/3 + 20 * 2/3 + 12 * 2/9 = 150/9 + 24/9
        self.check([10, 20], [18], [1, 2], [0, 58, 3])
        # 10 * 2/3 + 20 * 1/3 + 12 * 2/9 = 120/9 + 24/9
        self.check([10, 20], [18], [2, 1], [0, 16, 1])
        # 10 * 1/4 + 20 * 3/4 + 12 * 3/16 = 280/16 + 36/16
        self.check([10, 20], [18], [1, 3], [0, 79, 4])
        # 10 * 2/5 + 20 * 3/5 + 12 * 6/25 = 400/25 + 72/25
        self.check([10, 20], [18], [2, 3], [0, 472, 25])

    def test_two_components_without_interaction(self):
        # The interaction is 4 * 15 - 2 * (10 + 20) = 0.
        self.check([10, 20], [15], [1, 3], [0, 35, 2])
        self.check([10, 20], [15], [2, 1], [0, 40, 3])

    def test_three_components(self):
        # The interactions are 12 - 6 = 6, -20 - 10 = -30, 32 - 12 = 20.
        pure = [1, 2, 4]
        binary = [3, -5, 8]
        # 7/3 + (6 - 30 + 20)/9 = 21/9 - 4/9
        self.check(pure, binary, [1, 1, 1], [0, 17, 9])
        # 17/6 + (6 * 2 - 30 * 3 + 20 * 6)/36 = 102/36 + 42/36
        self.check(pure, binary, [1, 2, 3], [0, 4, 1])
        # 7/4 - 30 * 3/16 = 28/16 - 90/16
        self.check(pure, binary, [3, 0, 1], [0, -31, 8])
        # 9/4 + (6 * 2 - 30 * 1 + 20 * 2)/16 = 36/16 + 22/16
        self.check(pure, binary, [1, 2, 1], [0, 29, 8])

    def test_four_components(self):
        # 12/4 + (24 - 34 - 2 - 26 + 22 - 44)/16 = 48/16 - 60/16
        self.check(FOUR_PURE, FOUR_BINARY, [1, 1, 1, 1], [0, -3, 4])
        # 31/10 + (48 - 102 - 8 - 156 + 176 - 528)/100 = 310/100 - 570/100
        self.check(FOUR_PURE, FOUR_BINARY, [1, 2, 3, 4], [0, -13, 5])
        # 29/10 + (288 - 272 - 8 - 156 + 66 - 88)/100 = 290/100 - 170/100
        self.check(FOUR_PURE, FOUR_BINARY, [4, 3, 2, 1], [0, 6, 5])
        # 18/4 + (24 * 1 - 34 * 2 - 26 * 2)/16 = 72/16 - 96/16
        self.check(FOUR_PURE, FOUR_BINARY, [1, 1, 2, 0], [0, -3, 2])

    def test_order_of_the_pairs(self):
        # With parts 1 and 1, only the response of that very pair is answered.
        pairs = [(0, 1), (0, 2), (0, 3), (1, 2), (1, 3), (2, 3)]
        for (i, j), response in zip(pairs, FOUR_BINARY):
            mixture = with_element(with_element([0, 0, 0, 0], i, 1), j, 1)
            self.check(FOUR_PURE, FOUR_BINARY, mixture, [0, response, 1])


class Rationals(PredictCase):
    def test_no_whole_number(self):
        self.check([0, 1], [0], [1, 2], [0, 2, 9])
        self.check([0, 1], [1], [98, 1], [0, 295, 9801])

    def test_below_zero(self):
        # -10/3 - 40/3 - 12 * 2/9: all signs turned round.
        self.check([-10, -20], [-18], [1, 2], [0, -58, 3])
        self.check([0, -1], [0], [1, 2], [0, -2, 9])
        self.check([-5], [], [2], [0, -5, 1])

    def test_zero_is_zero_over_one(self):
        self.check([0], [], [99], [0, 0, 1])
        self.check([0, 0], [0], [3, 4], [0, 0, 1])
        self.check([1, -1], [0], [5, 5], [0, 0, 1])
        # 3/4 + 3/4 - 8 * 3/16: the pure terms and the interaction cancel out.
        self.check([1, 3], [0], [3, 1], [0, 0, 1])
        self.check([9, 9, 9], [0, 0, 0], [0, 7, 7], [0, 0, 1])

    def test_lowest_terms(self):
        # 100/100, and 200/100.
        self.check([1, 1], [1], [5, 5], [0, 1, 1])
        self.check([1, 2], [1], [0, 10], [0, 2, 1])
        # 3/4 - 6 * 3/16 = 12/16 - 18/16
        self.check([0, 3], [0], [6, 2], [0, -3, 8])
        # 4 * 2/5 without interaction: 160/100
        self.check([0, 4], [2], [6, 4], [0, 8, 5])
        # 9/10 + 2 * 9/100 = 108/100
        self.check([0, 1], [1], [1, 9], [0, 27, 25])

    def test_lowest_terms_below_zero(self):
        self.check([0, -4], [-2], [6, 4], [0, -8, 5])
        self.check([0, -3], [0], [6, 2], [0, 3, 8])
        self.check([-1, -1], [-1], [5, 5], [0, -1, 1])


class Requirements(PredictCase):
    def test_interpolation_of_pure_components(self):
        for parts in (1, 2, 50, 99):
            for place, response in enumerate(FOUR_PURE):
                mixture = with_element([0, 0, 0, 0], place, parts)
                self.check(FOUR_PURE, FOUR_BINARY, mixture, [0, response, 1])

    def test_interpolation_of_even_mixtures(self):
        for parts in (1, 2, 50, 99):
            pairs = itertools.combinations(range(4), 2)
            for (i, j), response in zip(pairs, FOUR_BINARY):
                mixture = with_element(with_element([0, 0, 0, 0], i, parts), j, parts)
                self.check(FOUR_PURE, FOUR_BINARY, mixture, [0, response, 1])

    def test_interpolation_with_fewer_components(self):
        self.check([11], [], [1], [0, 11, 1])
        self.check([11, -12], [13], [1, 0], [0, 11, 1])
        self.check([11, -12], [13], [0, 1], [0, -12, 1])
        self.check([11, -12], [13], [1, 1], [0, 13, 1])
        self.check([1, 2, 4], [3, -5, 8], [1, 1, 0], [0, 3, 1])
        self.check([1, 2, 4], [3, -5, 8], [1, 0, 1], [0, -5, 1])
        self.check([1, 2, 4], [3, -5, 8], [0, 1, 1], [0, 8, 1])

    def test_same_mixture_in_other_parts(self):
        answers = {
            (1, 2, 3, 4): [0, -13, 5],
            (4, 3, 2, 1): [0, 6, 5],
            (1, 1, 1, 1): [0, -3, 4],
            (1, 1, 2, 0): [0, -3, 2],
        }
        for mixture, answer in answers.items():
            for factor in range(1, 99 // max(mixture) + 1):
                many = [factor * parts for parts in mixture]
                self.check(FOUR_PURE, FOUR_BINARY, many, answer)

    def test_agrees_with_every_model_of_that_form(self):
        # A model is made of its multiples first, its responses follow from them.
        multiples = [6, -14, 20, -2]
        products = [12, -28, 8, 40, -4, 16]
        for count, pair_count in PAIR_COUNTS.items():
            pairs = list(itertools.combinations(range(count), 2))
            factors = products[:pair_count]
            pure = multiples[:count]
            binary = [
                (pure[i] + pure[j]) // 2 + factor // 4
                for (i, j), factor in zip(pairs, factors)
            ]
            for mixture in itertools.product((0, 1, 2, 5), repeat=count):
                if sum(mixture) == 0:
                    continue
                x = fractions_of(mixture)
                response = sum(Fraction(pure[i]) * x[i] for i in range(count))
                for (i, j), factor in zip(pairs, factors):
                    response = response + factor * x[i] * x[j]
                self.check(pure, binary, mixture, [0] + rational(response))


class Definition(PredictCase):
    """Against "Predicted response", followed word by word in fractions."""

    def check_definition(self, pure, binary, mixture):
        response = defined_response(pure, binary, fractions_of(mixture))
        self.check(pure, binary, mixture, [0] + rational(response))

    def test_many_mixtures(self):
        for pure, binary, mixture in sweep(1000):
            self.check_definition(pure, binary, mixture)

    def test_every_number_of_parts(self):
        for parts in range(100):
            for place in range(4):
                self.check_definition(FOUR_PURE, FOUR_BINARY, with_element([1, 2, 3, 4], place, parts))
            self.check_definition([10, 20], [18], [1, parts])
            self.check_definition([10, 20], [18], [parts, 99])

    def test_every_response(self):
        for response in range(-999, 1000):
            self.check_definition([response], [], [3])
            self.check_definition([response, 20], [18], [2, 1])
            self.check_definition([10, response], [18], [2, 1])
            self.check_definition([10, 20], [response], [2, 1])


class Edges(PredictCase):
    def test_largest_and_smallest_responses(self):
        for number in (-999, 999):
            for count, pair_count in PAIR_COUNTS.items():
                for parts in (1, 99):
                    self.check([number] * count, [number] * pair_count, [parts] * count, [0, number, 1])

    def test_one_element_at_its_edge(self):
        for number in (-999, -998, 998, 999):
            for place in range(4):
                mixture = with_element([0, 0, 0, 0], place, 1)
                self.check(with_element(FOUR_PURE, place, number), FOUR_BINARY, mixture, [0, number, 1])
            for place, pair in enumerate(itertools.combinations(range(4), 2)):
                mixture = [int(component in pair) for component in range(4)]
                self.check(FOUR_PURE, with_element(FOUR_BINARY, place, number), mixture, [0, number, 1])

    def test_pure_and_binary_far_apart(self):
        # Each interaction is 4 * 999 + 4 * 999 = 7992; -999 + 6 * 7992/16.
        self.check([-999] * 4, [999] * 6, [1, 1, 1, 1], [0, 1998, 1])
        self.check([-999] * 4, [999] * 6, [99, 99, 99, 99], [0, 1998, 1])
        self.check([999] * 4, [-999] * 6, [99, 99, 99, 99], [0, -1998, 1])
        # The products of two different parts add up to (390 * 390 - 38030)/2 = 57035:
        # -999 + 7992 * 57035/152100 = 303875820/152100, and both are multiples of 180.
        self.check([-999] * 4, [999] * 6, [99, 98, 97, 96], [0, 1688199, 845])

    def test_fewest_and_most_parts(self):
        self.check([10, 20], [18], [0, 99], [0, 20, 1])
        self.check([10, 20], [18], [99, 0], [0, 10, 1])
        self.check([10, 20], [18], [99, 99], [0, 18, 1])
        # 10 * 1/100 + 20 * 99/100 + 12 * 99/10000 = 199000/10000 + 1188/10000
        self.check([10, 20], [18], [1, 99], [0, 50047, 2500])
        # 10 * 99/197 + 20 * 98/197 + 12 * 99 * 98/38809 = 581150/38809 + 116424/38809
        self.check([10, 20], [18], [99, 98], [0, 697574, 38809])
        self.check(FOUR_PURE, FOUR_BINARY, [0, 0, 0, 99], [0, 2, 1])


class Refusals(PredictCase):
    def test_pure_or_binary_outside_the_limits(self):
        for pure, binary in wrong_responses():
            self.check_refused(pure, binary, [1] * len(pure))

    def test_wrong_elements_of_components_without_parts(self):
        self.check_refused([1, 1000], [1], [1, 0])
        self.check_refused([1, 1], [-1000], [1, 0])
        self.check_refused([1, 1, 1], [1, 1, 1000], [1, 0, 0])

    def test_mixture_outside_the_limits(self):
        for count, pair_count in PAIR_COUNTS.items():
            for mixture in wrong_mixtures(count):
                self.check_refused([1] * count, [2] * pair_count, mixture)

    def test_several_at_once(self):
        self.check_refused([], [], [])
        self.check_refused([1000], [1], [100])
        self.check_refused([1000, 1], [], [0, 0])
        self.check_refused([1, 1], [-1000], [100, 0])
        self.check_refused([1, 1], [1, 1], [1])
        self.check_refused([-2147483648] * 6, [2147483647] * 8, [4294967295] * 6)
        self.check_refused([10, 20], [18], [100, 4294967295, 0])
        for pure, binary in wrong_responses():
            self.check_refused(pure, binary, [0] * len(pure))
            self.check_refused(pure, binary, [100] * len(pure))
            self.check_refused(pure, binary, [])


class Calls(CallChecks, unittest.TestCase):
    FUNCTION = staticmethod(predict)
    CALLS = (
        ([10, 20], [18], [1, 2]),
        (FOUR_PURE, FOUR_BINARY, [4, 3, 2, 1]),
        ([7], [], [3]),
        ([10, 20], [18], [0, 0]),
        ([10, 1000], [18], [1, 2]),
        ([], [18] * 8, [4294967295] * 6),
    )

    def test_one_list_as_two_arguments(self):
        numbers = [10, 20]
        self.assertEqual(predict(numbers, [18], numbers), [0, 58, 3])
        self.assertEqual(numbers, [10, 20])

    def test_arguments_changed_by_the_caller_count(self):
        pure = [10, 20]
        binary = [18]
        mixture = [1, 2]
        self.assertEqual(predict(pure, binary, mixture), [0, 58, 3])
        mixture[1] = 3
        self.assertEqual(predict(pure, binary, mixture), [0, 79, 4])
        binary[0] = 15
        self.assertEqual(predict(pure, binary, mixture), [0, 35, 2])
        pure[0] = 1000
        self.assertEqual(predict(pure, binary, mixture), [-22])

    def test_arguments_by_their_names(self):
        self.assertEqual(predict(pure=[10, 20], binary=[18], mixture=[1, 2]), [0, 58, 3])


if __name__ == "__main__":
    unittest.main()
