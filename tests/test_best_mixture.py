"""Tests of best_mixture."""

import itertools
import unittest

from pairblend.responses import best_mixture, predict
from tests.cases import (
    EVEN_BINARY,
    EVEN_PURE,
    FOUR_BINARY,
    FOUR_PURE,
    PAIR_COUNTS,
    THREE_BINARY,
    THREE_PURE,
    CallChecks,
    defined_response,
    every_mixture,
    fractions_of,
    placed,
    rational,
    sweep,
    with_element,
    wrong_responses,
)

WRONG_PARTS = (
    0, 11, 12, 20, 21, 99, 100, 255, 256, 257, 65535, 65536, 65537,
    2147483647, 2147483648, 2147483649, 4294967286, 4294967295,
)


def favouring(count, places):
    """One binary response for each pair: 1 for two of the places, else -1."""
    pairs = itertools.combinations(range(count), 2)
    return [1 if i in places and j in places else -1 for i, j in pairs]


class BestCase(unittest.TestCase):
    def check(self, parts, pure, binary, mixture, response):
        with self.subTest(parts=parts, pure=pure, binary=binary):
            answer = [len(pure)] + mixture + response
            self.assertEqual(best_mixture(parts, list(pure), list(binary)), answer)

    def check_refused(self, parts, pure, binary):
        with self.subTest(parts=parts, pure=pure, binary=binary):
            self.assertEqual(best_mixture(parts, list(pure), list(binary)), [-22])


class OrdinaryResponses(BestCase):
    def test_example_of_the_document(self):
        self.assertEqual(best_mixture(2, [10, 20], [18]), [2, 0, 2, 20, 1])

    def test_one_component(self):
        for number in (-999, -8, 0, 7, 999):
            for parts in range(1, 11):
                self.check(parts, [number], [], [parts], [number, 1])

    def test_two_components(self):
        # With x of component 0 the response is 20 + 2 * x - 12 * x * x.
        for parts in (1, 2, 3, 4, 5):
            self.check(parts, [10, 20], [18], [0, parts], [20, 1])
        # 20 + 2/49, 20 + 4/64, 20 + 6/81, 20 + 8/100
        self.check(7, [10, 20], [18], [1, 6], [982, 49])
        self.check(8, [10, 20], [18], [1, 7], [321, 16])
        self.check(9, [10, 20], [18], [1, 8], [542, 27])
        self.check(10, [10, 20], [18], [1, 9], [502, 25])
        # The same the other way round.
        self.check(7, [20, 10], [18], [6, 1], [982, 49])
        self.check(10, [20, 10], [18], [9, 1], [502, 25])

    def test_three_components(self):
        self.check(1, THREE_PURE, THREE_BINARY, [0, 0, 1], [4, 1])
        self.check(2, THREE_PURE, THREE_BINARY, [0, 1, 1], [8, 1])
        # 7/3 + 56/9
        self.check(3, THREE_PURE, THREE_BINARY, [1, 1, 1], [77, 9])
        # 11/4 + (18 * 1 + 18 * 2 + 20 * 2)/16 = 44/16 + 94/16
        self.check(4, THREE_PURE, THREE_BINARY, [1, 1, 2], [69, 8])

    def test_four_components(self):
        self.check(1, EVEN_PURE, EVEN_BINARY, [0, 0, 0, 1], [8, 1])
        self.check(2, EVEN_PURE, EVEN_BINARY, [0, 0, 1, 1], [17, 1])
        # 18/3 + 40 * 3/9
        self.check(3, EVEN_PURE, EVEN_BINARY, [0, 1, 1, 1], [58, 3])
        # 20/4 + 40 * 6/16
        self.check(4, EVEN_PURE, EVEN_BINARY, [1, 1, 1, 1], [20, 1])
        # 28/5 + 40 * 9/25 = 140/25 + 360/25
        self.check(5, EVEN_PURE, EVEN_BINARY, [1, 1, 1, 2], [20, 1])
        # 54/10 + 40 * 37/100 = 540/100 + 1480/100
        self.check(10, EVEN_PURE, EVEN_BINARY, [2, 2, 3, 3], [101, 5])
        # The parts go with their components.
        self.check(10, [8, 6, 4, 2], [17, 16, 15, 15, 14, 13], [3, 3, 2, 2], [101, 5])
        self.check(5, [8, 6, 4, 2], [17, 16, 15, 15, 14, 13], [2, 1, 1, 1], [20, 1])

    def test_one_part_asks_for_the_largest_pure_response(self):
        for pure in itertools.permutations(FOUR_PURE):
            mixture = placed(4, [pure.index(8)], [1])
            self.check(1, pure, [999] * 6, mixture, [8, 1])
            self.check(1, pure, [-999] * 6, mixture, [8, 1])


class NeededComponents(BestCase):
    def test_one_alone_at_each_place(self):
        # Its interactions are -18, so its response 9 is reached by all parts alone.
        for count, pair_count in PAIR_COUNTS.items():
            for place in range(count):
                for parts in (1, 2, 3, 7, 10):
                    pure = placed(count, [place], [9])
                    self.check(parts, pure, [0] * pair_count, placed(count, [place], [parts]), [9, 1])

    def check_at_places(self, needed, parts, found, response):
        """Check the best mixture where the interactions are 4 between the needed ones, else -4."""
        for count in range(needed, 5):
            for places in itertools.combinations(range(count), needed):
                mixture = placed(count, places, found)
                self.check(parts, [0] * count, favouring(count, places), mixture, response)

    def test_two_at_each_place(self):
        self.check_at_places(2, 2, [1, 1], [1, 1])
        self.check_at_places(2, 3, [1, 2], [8, 9])
        self.check_at_places(2, 9, [4, 5], [80, 81])
        self.check_at_places(2, 10, [5, 5], [1, 1])

    def test_three_at_each_place(self):
        # 4 * 3/9, 4 * 5/16, 4 * 33/100
        self.check_at_places(3, 3, [1, 1, 1], [4, 3])
        self.check_at_places(3, 4, [1, 1, 2], [5, 4])
        self.check_at_places(3, 10, [3, 3, 4], [33, 25])

    def test_four(self):
        # 4 * 6/16, 4 * 9/25, 4 * 37/100
        self.check_at_places(4, 4, [1, 1, 1, 1], [3, 2])
        self.check_at_places(4, 5, [1, 1, 1, 2], [36, 25])
        self.check_at_places(4, 10, [2, 2, 3, 3], [37, 25])


class Optimality(BestCase):
    def best_of_all(self, parts, pure, binary):
        """Check a best mixture against every mixture, and give it back."""
        count = len(pure)
        with self.subTest(parts=parts, pure=pure, binary=binary):
            answer = best_mixture(parts, pure, binary)
            self.assertEqual(len(answer), count + 3)
            self.assertEqual(answer[0], count)
            best = answer[1 : count + 1]
            self.assertEqual(sum(best), parts)
            mixtures = every_mixture(count, parts)
            responses = [defined_response(pure, binary, fractions_of(mixture)) for mixture in mixtures]
            # The first of the largest, since the mixtures are in lexicographic order.
            largest = max(responses)
            self.assertEqual(best, mixtures[responses.index(largest)])
            self.assertEqual(answer[count + 1 :], rational(largest))
            return best

    def test_every_mixture_by_the_definition(self):
        for turn, (pure, binary, _) in enumerate(sweep(30)):
            self.best_of_all(1 + turn // 2 % 10, pure, binary)

    def test_every_number_of_parts(self):
        for parts in range(1, 11):
            self.best_of_all(parts, FOUR_PURE, FOUR_BINARY)
            self.best_of_all(parts, EVEN_PURE, EVEN_BINARY)
            self.best_of_all(parts, THREE_PURE, THREE_BINARY)
            self.best_of_all(parts, [10, 20], [18])

    def test_every_order_of_the_components(self):
        found = set()
        for pure in itertools.permutations(EVEN_PURE):
            pairs = itertools.combinations(pure, 2)
            binary = [(40 + 2 * (one + other)) // 4 for one, other in pairs]
            found.add(tuple(self.best_of_all(5, list(pure), binary)))
        self.assertEqual(len(found), 4)

    def test_no_mixture_is_predicted_larger(self):
        for turn, (pure, binary, _) in enumerate(sweep(60)):
            parts = 1 + turn // 2 % 10
            with self.subTest(parts=parts, pure=pure, binary=binary):
                answer = best_mixture(parts, pure, binary)
                numerator, denominator = answer[-2:]
                for mixture in every_mixture(len(pure), parts):
                    _, other_numerator, other_denominator = predict(pure, binary, mixture)
                    self.assertLessEqual(other_numerator * denominator, numerator * other_denominator)

    def test_response_is_that_of_the_mixture(self):
        for turn, (pure, binary, _) in enumerate(sweep(100)):
            parts = 1 + turn // 2 % 10
            with self.subTest(parts=parts, pure=pure, binary=binary):
                answer = best_mixture(parts, pure, binary)
                best = answer[1 : len(pure) + 1]
                self.assertEqual(predict(pure, binary, best), [0] + answer[len(pure) + 1 :])

    def test_every_response(self):
        for response in range(-999, 1000, 3):
            self.best_of_all(3, [response, 20], [18])
            self.best_of_all(3, [10, response], [18])
            self.best_of_all(3, [10, 20], [response])


class Ties(BestCase):
    def test_all_mixtures_alike(self):
        for number in (-999, -7, 0, 1, 999):
            for count, pair_count in PAIR_COUNTS.items():
                for parts in range(1, 11):
                    mixture = placed(count, [count - 1], [parts])
                    self.check(parts, [number] * count, [number] * pair_count, mixture, [number, 1])

    def test_two_pure_components(self):
        # All interactions of component 0 or 2 are below 0.
        for parts in range(1, 11):
            self.check(parts, [9, 0, 9, 0], [0] * 6, [0, 0, parts, 0], [9, 1])
            self.check(parts, [9, 9, 0, 0], [0] * 6, [0, parts, 0, 0], [9, 1])
            self.check(parts, [9, 9], [0], [0, parts], [9, 1])

    def test_a_pure_component_and_a_mixture_of_two(self):
        # 20 + 2/6 - 12/36 of [1, 5] is 20, too.
        self.check(6, [10, 20], [18], [0, 6], [20, 1])
        # [5, 1] comes before [6, 0].
        self.check(6, [20, 10], [18], [5, 1], [20, 1])

    def test_two_mixtures_of_two(self):
        # [1, 2] and [2, 1]
        self.check(3, [0, 0], [1], [1, 2], [8, 9])
        # 2 * y + 4 * z + 20 * y * z of [0, 4, 6] and of [0, 5, 5]
        self.check(10, [1, 2, 4], [3, -5, 8], [0, 4, 6], [8, 1])

    def test_three_mixtures_of_three(self):
        # [1, 1, 2], [1, 2, 1] and [2, 1, 1]
        self.check(4, [0, 0, 0], [1, 1, 1], [1, 1, 2], [5, 4])
        # [2, 3, 5], [2, 4, 4] and [3, 3, 4]: 280 + 588, 260 + 608 and 250 + 618, each over 100
        self.check(10, THREE_PURE, THREE_BINARY, [2, 3, 5], [217, 25])

    def test_components_that_are_alike(self):
        # Component 0 takes 1 part of 4; how the rest is shared makes no difference.
        self.check(4, [-999, 0, 0, 0], [0] * 6, [1, 0, 0, 3], [999, 8])
        self.check(4, [0, 0, 0, -999], [0] * 6, [0, 0, 3, 1], [999, 8])


class Rationals(BestCase):
    def test_below_zero(self):
        self.check(4, [-5, -7], [-8], [4, 0], [-5, 1])
        self.check(10, [-10, -10], [-9], [5, 5], [-9, 1])

    def test_below_zero_and_no_whole_number(self):
        # -10 + 4 * 2/9, -10 + 4 * 6/25
        self.check(3, [-10, -10], [-9], [1, 2], [-82, 9])
        self.check(5, [-10, -10], [-9], [2, 3], [-226, 25])
        # -10 + 4 * 3/9 = -78/9, -10 + 4 * 33/100 = -868/100
        self.check(3, [-10] * 3, [-9] * 3, [1, 1, 1], [-26, 3])
        self.check(10, [-10] * 3, [-9] * 3, [3, 3, 4], [-217, 25])

    def test_zero_is_zero_over_one(self):
        self.check(10, [0], [], [10], [0, 1])
        self.check(3, [0, -5], [-3], [3, 0], [0, 1])
        self.check(10, [-1, -1], [0], [5, 5], [0, 1])
        # -16 + 48 * 3/9; with two components alone it is -16 + 48 * 2/9.
        self.check(3, [-16] * 3, [-4] * 3, [1, 1, 1], [0, 1])

    def test_nothing_to_cancel(self):
        # 4 * 2/9, 4 * 6/25, 4 * 12/49, 4 * 20/81
        self.check(3, [0, 0], [1], [1, 2], [8, 9])
        self.check(5, [0, 0], [1], [2, 3], [24, 25])
        self.check(7, [0, 0], [1], [3, 4], [48, 49])
        self.check(9, [0, 0], [1], [4, 5], [80, 81])

    def test_something_to_cancel(self):
        # 4 * 4/16, 12 * 2/9, 4 * 5/16, 20 + 6/81
        self.check(4, [0, 0], [1], [2, 2], [1, 1])
        self.check(3, [0, 0], [3], [1, 2], [8, 3])
        self.check(4, [0, 0, 0], [1, 1, 1], [1, 1, 2], [5, 4])
        self.check(9, [10, 20], [18], [1, 8], [542, 27])


class Edges(BestCase):
    def test_largest_interactions(self):
        # The interactions are 4 * 999 + 4 * 999 = 7992.
        for parts in (2, 4, 6, 8, 10):
            self.check(parts, [-999] * 2, [999], [parts // 2] * 2, [999, 1])
        # -999 + 7992 * 33/100, -999 + 7992 * 6/16, -999 + 7992 * 37/100
        self.check(10, [-999] * 3, [999] * 3, [3, 3, 4], [40959, 25])
        self.check(4, [-999] * 4, [999] * 6, [1, 1, 1, 1], [1998, 1])
        self.check(10, [-999] * 4, [999] * 6, [2, 2, 3, 3], [48951, 25])

    def test_smallest_interactions(self):
        for count, pair_count in PAIR_COUNTS.items():
            for parts in (1, 2, 10):
                mixture = placed(count, [count - 1], [parts])
                self.check(parts, [999] * count, [-999] * pair_count, mixture, [999, 1])

    def test_one_pure_element_at_its_edge(self):
        for number in (998, 999):
            for place in range(4):
                for parts in (1, 10):
                    pure = with_element([0] * 4, place, number)
                    self.check(parts, pure, [0] * 6, placed(4, [place], [parts]), [number, 1])
        # Of -999 its interactions are 1998: -999/4 + 1998 * 3/16 with 1 part of 4.
        for place in range(4):
            last = 2 if place == 3 else 3
            pure = with_element([0] * 4, place, -999)
            self.check(4, pure, [0] * 6, placed(4, [place, last], [1, 3]), [999, 8])
            # A single part goes to a component whose response is 0.
            self.check(1, pure, [0] * 6, placed(4, [last], [1]), [0, 1])

    def test_one_binary_element_at_its_edge(self):
        for place, pair in enumerate(itertools.combinations(range(4), 2)):
            for number in (998, 999):
                binary = with_element([0] * 6, place, number)
                self.check(2, [0] * 4, binary, placed(4, pair, [1, 1]), [number, 1])
                self.check(10, [0] * 4, binary, placed(4, pair, [5, 5]), [number, 1])
            for number in (-999, -998):
                binary = with_element([0] * 6, place, number)
                self.check(2, [0] * 4, binary, [0, 0, 0, 2], [0, 1])

    def test_fewest_and_most_parts(self):
        for count, pair_count in PAIR_COUNTS.items():
            for parts in (1, 10):
                answer = best_mixture(parts, [3] * count, [2] * pair_count)
                self.assertEqual(answer, [count] + [0] * (count - 1) + [parts, 3, 1])


class Refusals(BestCase):
    def test_wrong_parts(self):
        for count, pair_count in PAIR_COUNTS.items():
            for parts in WRONG_PARTS:
                self.check_refused(parts, [1] * count, [2] * pair_count)

    def test_pure_or_binary_outside_the_limits(self):
        for pure, binary in wrong_responses():
            self.check_refused(2, pure, binary)
            self.check_refused(10, pure, binary)

    def test_wrong_elements_of_components_without_parts(self):
        self.check_refused(1, [1, 1], [-1000])
        self.check_refused(1, [20, -1000], [-999])
        self.check_refused(1, [20, 10, 10], [0, 0, -2147483648])

    def test_several_at_once(self):
        for pure, binary in wrong_responses():
            self.check_refused(0, pure, binary)
            self.check_refused(11, pure, binary)
        self.check_refused(4294967295, [-2147483648] * 6, [2147483647] * 8)
        self.check_refused(4294967295, [], [])


class Calls(CallChecks, unittest.TestCase):
    FUNCTION = staticmethod(best_mixture)
    CALLS = (
        (2, [10, 20], [18]),
        (10, FOUR_PURE, FOUR_BINARY),
        (10, EVEN_PURE, EVEN_BINARY),
        (3, THREE_PURE, THREE_BINARY),
        (5, [7], []),
        (11, [10, 20], [18]),
        (0, [10, 20], [18]),
        (2, [10, 1000], [18]),
        (2, [], [18] * 8),
    )

    def test_one_list_as_two_arguments(self):
        numbers = [1, 1, 1]
        self.assertEqual(best_mixture(3, numbers, numbers), [3, 0, 0, 3, 1, 1])
        self.assertEqual(numbers, [1, 1, 1])

    def test_arguments_changed_by_the_caller_count(self):
        pure = [10, 20]
        binary = [18]
        self.assertEqual(best_mixture(2, pure, binary), [2, 0, 2, 20, 1])
        binary[0] = 30
        self.assertEqual(best_mixture(2, pure, binary), [2, 1, 1, 30, 1])
        pure[0] = 40
        self.assertEqual(best_mixture(2, pure, binary), [2, 2, 0, 40, 1])
        pure.append(1)
        self.assertEqual(best_mixture(2, pure, binary), [-22])

    def test_arguments_by_their_names(self):
        self.assertEqual(best_mixture(parts=2, pure=[10, 20], binary=[18]), [2, 0, 2, 20, 1])


if __name__ == "__main__":
    unittest.main()
