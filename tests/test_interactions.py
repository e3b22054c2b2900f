"""Tests of interactions."""

import itertools
import unittest

from pairblend.responses import interactions, predict
from tests.cases import (
    FOUR_BINARY,
    FOUR_PURE,
    PAIR_COUNTS,
    CallChecks,
    sweep,
    with_element,
    wrong_responses,
)


class InteractionsCase(unittest.TestCase):
    def check(self, pure, binary, answer):
        with self.subTest(pure=pure, binary=binary):
            self.assertEqual(interactions(list(pure), list(binary)), answer)


class OrdinaryResponses(InteractionsCase):
    def test_example_of_the_document(self):
        self.check([10, 20], [18], [1, 12, 1])

    def test_one_component_has_no_pair(self):
        for number in (-999, -1, 0, 1, 7, 999):
            self.check([number], [], [0])

    def test_two_components(self):
        # 4 * 7 - 2 * (3 + 4)
        self.check([3, 4], [7], [1, 14, 1])
        # 4 * 1 - 2 * (-3 + 8)
        self.check([-3, 8], [1], [1, -6, 1])
        # 4 * -2 - 2 * (-5 - 6)
        self.check([-5, -6], [-2], [1, 14, 1])
        # 4 * 0 - 2 * (0 + 1), and the other way round
        self.check([0, 1], [0], [1, -2, 1])
        self.check([1, 0], [0], [1, -2, 1])

    def test_three_components(self):
        # 12 - 2 * 3, -20 - 2 * 5, 32 - 2 * 6
        self.check([1, 2, 4], [3, -5, 8], [3, 6, 1, -30, 1, 20, 1])
        # 4 - 2 * 110, 8 - 2 * 910, 12 - 2 * 1000
        self.check([10, 100, 900], [1, 2, 3], [3, -216, 1, -1812, 1, -1988, 1])

    def test_four_components(self):
        # 28 - 2 * 2, -8 - 2 * 13, 12 - 2 * 7, -16 - 2 * 5, 20 + 2 * 1, -24 - 2 * 10
        self.check(FOUR_PURE, FOUR_BINARY, [6, 24, 1, -34, 1, -2, 1, -26, 1, 22, 1, -44, 1])

    def test_order_of_the_pairs(self):
        # Without binary responses: -2 * 11, -2 * 101, -2 * 801, -2 * 110, -2 * 810, -2 * 900.
        self.check(
            [1, 10, 100, 800],
            [0, 0, 0, 0, 0, 0],
            [6, -22, 1, -202, 1, -1602, 1, -220, 1, -1620, 1, -1800, 1],
        )
        # Without pure responses: 4 times each binary response.
        self.check(
            [0, 0, 0, 0],
            [1, 2, 3, 4, 5, 6],
            [6, 4, 1, 8, 1, 12, 1, 16, 1, 20, 1, 24, 1],
        )

    def test_zero_is_zero_over_one(self):
        self.check([10, 20], [15], [1, 0, 1])
        self.check([0, 0], [0], [1, 0, 1])
        self.check([7, -7], [0], [1, 0, 1])
        self.check([-4, -8], [-6], [1, 0, 1])
        self.check([5, 5, 5], [5, 5, 5], [3, 0, 1, 0, 1, 0, 1])

    def test_above_below_and_zero_side_by_side(self):
        # 40 - 2 * 6, 16 - 2 * 8, 4 - 2 * 10
        self.check([2, 4, 6], [10, 4, 1], [3, 28, 1, 0, 1, -16, 1])

    def test_is_the_interaction_that_predict_uses(self):
        # A mixture of 1 and 1 and 1 parts: the pure sum over 3, the interactions over 9.
        answer = interactions([1, 2, 4], [3, -5, 8])
        ninths = 3 * (1 + 2 + 4) + answer[1] + answer[3] + answer[5]
        self.assertEqual(predict([1, 2, 4], [3, -5, 8], [1, 1, 1]), [0, ninths, 9])


class Definition(InteractionsCase):
    """Against "Interaction", followed word by word."""

    def check_definition(self, pure, binary):
        answer = [len(binary)]
        pairs = itertools.combinations(range(len(pure)), 2)
        for (i, j), pair_response in zip(pairs, binary):
            answer.extend([4 * pair_response - 2 * (pure[i] + pure[j]), 1])
        self.check(pure, binary, answer)

    def test_many_responses(self):
        for pure, binary, _ in sweep(1000):
            self.check_definition(pure, binary)

    def test_every_response(self):
        for response in range(-999, 1000):
            self.check_definition([response], [])
            self.check_definition([response, 20], [18])
            self.check_definition([10, response], [18])
            self.check_definition([10, 20], [response])


class Edges(InteractionsCase):
    def test_all_responses_alike(self):
        for number in (-999, 999):
            for count, pair_count in PAIR_COUNTS.items():
                self.check([number] * count, [number] * pair_count, [pair_count] + [0, 1] * pair_count)

    def test_largest_and_smallest_interactions(self):
        # 4 * 999 + 2 * 1998
        for count, pair_count in PAIR_COUNTS.items():
            self.check([-999] * count, [999] * pair_count, [pair_count] + [7992, 1] * pair_count)
            self.check([999] * count, [-999] * pair_count, [pair_count] + [-7992, 1] * pair_count)

    def test_one_pure_element_at_its_edge(self):
        pairs = list(itertools.combinations(range(4), 2))
        for number in (-999, -998, 998, 999):
            for place in range(4):
                answer = [6]
                for pair in pairs:
                    answer.extend([-2 * number if place in pair else 0, 1])
                self.check(with_element([0] * 4, place, number), [0] * 6, answer)

    def test_one_binary_element_at_its_edge(self):
        for number in (-999, -998, 998, 999):
            for place in range(6):
                answer = [6] + [0, 1] * 6
                answer[1 + 2 * place] = 4 * number
                self.check([0] * 4, with_element([0] * 6, place, number), answer)


class Refusals(InteractionsCase):
    def test_pure_or_binary_outside_the_limits(self):
        for pure, binary in wrong_responses():
            self.check(pure, binary, [-22])

    def test_a_single_component_has_no_binary_response(self):
        self.check([7], [0], [-22])
        self.check([7], [7], [-22])
        self.check([], [], [-22])

    def test_cutting_off_what_is_too_many_is_no_way_out(self):
        self.check([10, 20], [18, 0], [-22])
        self.check([10, 20, 0, 0, 0], [18], [-22])
        self.check([10, 20, 0], [18], [-22])


class Calls(CallChecks, unittest.TestCase):
    FUNCTION = staticmethod(interactions)
    CALLS = (
        ([10, 20], [18]),
        (FOUR_PURE, FOUR_BINARY),
        ([1, 2, 4], [3, -5, 8]),
        ([7], []),
        ([10, 1000], [18]),
        ([10, 20], []),
        ([], [18] * 8),
    )

    def test_one_list_as_two_arguments(self):
        numbers = [1, 2, 4]
        # 4 - 2 * 3, 8 - 2 * 5, 16 - 2 * 6
        self.assertEqual(interactions(numbers, numbers), [3, -2, 1, -2, 1, 4, 1])
        self.assertEqual(numbers, [1, 2, 4])

    def test_arguments_changed_by_the_caller_count(self):
        pure = [10, 20]
        binary = [18]
        self.assertEqual(interactions(pure, binary), [1, 12, 1])
        binary[0] = 15
        self.assertEqual(interactions(pure, binary), [1, 0, 1])
        pure[0] = 9
        self.assertEqual(interactions(pure, binary), [1, 2, 1])
        binary.append(1)
        self.assertEqual(interactions(pure, binary), [-22])

    def test_arguments_by_their_names(self):
        self.assertEqual(interactions(pure=[10, 20], binary=[18]), [1, 12, 1])


if __name__ == "__main__":
    unittest.main()
