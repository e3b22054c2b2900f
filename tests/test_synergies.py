"""Tests of synergies."""

import itertools
import unittest

from pairblend.responses import interactions, synergies
from tests.cases import (
    EVEN_BINARY,
    EVEN_PURE,
    FOUR_BINARY,
    FOUR_PURE,
    PAIR_COUNTS,
    THREE_BINARY,
    THREE_PURE,
    CallChecks,
    placed,
    sweep,
    with_element,
    wrong_responses,
)

# What lies just outside and far outside a component's limits, whatever its edge is.
FAR_COMPONENTS = (6, 7, 99, 255, 256, 257, 65536, 2147483647, 2147483648, 4294967292, 4294967295)


def others_than(component, count):
    """All of so many components but one, in increasing order."""
    return [other for other in range(count) if other != component]


def partners_of(positive_pairs, count):
    """For each component, those that it has a positive interaction with, in increasing order."""
    partners = [[] for component in range(count)]
    for i, j in positive_pairs:
        partners[i].append(j)
        partners[j].append(i)
    return [sorted(found) for found in partners]


def nearest_binary(pure, signs):
    """Binary responses whose interactions have the given signs and are as near to 0 as can be.

    A sign of 0 stands where the sum of the two pure responses is even.
    """
    found = []
    for (one, other), sign in zip(itertools.combinations(pure, 2), signs):
        steps = 2 * sign if (one + other) % 2 == 0 else sign
        found.append((one + other + steps) // 2)
    return found


class SynergiesCase(unittest.TestCase):
    def check(self, component, pure, binary, answer):
        with self.subTest(component=component, pure=pure, binary=binary):
            self.assertEqual(synergies(component, list(pure), list(binary)), answer)

    def check_each(self, pure, binary, partners):
        """Check every component, with the partners of each."""
        self.assertEqual(len(partners), len(pure))
        for component, found in enumerate(partners):
            self.check(component, pure, binary, [len(found)] + found)


class OrdinaryResponses(SynergiesCase):
    def test_example_of_the_document(self):
        self.check(0, [10, 20], [18], [1, 1])

    def test_one_component_has_no_other(self):
        for number in (-999, -1, 0, 1, 7, 999):
            self.check(0, [number], [], [0])

    def test_two_components(self):
        # 4 * 18 - 2 * 30 = 12, seen from both of its components
        self.check_each([10, 20], [18], [[1], [0]])
        # 4 * 12 - 2 * 30 = -12
        self.check_each([10, 20], [12], [[], []])
        # 4 * 15 - 2 * 30 = 0
        self.check_each([10, 20], [15], [[], []])

    def test_signs_of_the_responses_are_not_asked_for(self):
        # 4 * -14 - 2 * -30 = 4, 4 * 14 - 2 * 30 = -4
        self.check_each([-10, -20], [-14], [[1], [0]])
        self.check_each([10, 20], [14], [[], []])
        # 4 * 3 - 2 * -4 = 20, 4 * -3 - 2 * 4 = -20
        self.check_each([-8, 4], [3], [[1], [0]])
        self.check_each([8, -4], [-3], [[], []])

    def test_three_components(self):
        # The interactions are 18, 18, 20: all others.
        self.check_each(THREE_PURE, THREE_BINARY, [[1, 2], [0, 2], [0, 1]])
        # 12 - 2 * 3 = 6, -20 - 2 * 5 = -30, 32 - 2 * 6 = 20: some.
        self.check_each([1, 2, 4], [3, -5, 8], [[1], [0, 2], [1]])
        # 4 - 2 * 3 = -2, 12 - 2 * 5 = 2, 12 - 2 * 6 = 0
        self.check_each([1, 2, 4], [1, 3, 3], [[2], [], [0]])
        # 4 - 2 * 3 = -2, 8 - 2 * 5 = -2, 8 - 2 * 6 = -4: no other.
        self.check_each([1, 2, 4], [1, 2, 2], [[], [], []])

    def test_four_components(self):
        # The interactions are 24, -34, -2, -26, 22, -44: some of them.
        self.check_each(FOUR_PURE, FOUR_BINARY, [[1], [0, 3], [], [1]])
        # The interactions are all 40.
        self.check_each(EVEN_PURE, EVEN_BINARY, [[1, 2, 3], [0, 2, 3], [0, 1, 3], [0, 1, 2]])
        # 4 times as much as the binary responses, minus 40: -20, -16, -12, -12, -8, -4.
        self.check_each([10] * 4, [5, 6, 7, 7, 8, 9], [[], [], [], []])

    def test_none_some_and_all_others(self):
        # A component's interactions are positive with just the others that are asked for.
        for count in PAIR_COUNTS:
            for component in range(count):
                others = others_than(component, count)
                for number in range(count):
                    for chosen in itertools.combinations(others, number):
                        pairs = itertools.combinations(range(count), 2)
                        binary = [
                            1 if component in pair and (pair[0] in chosen or pair[1] in chosen) else -1
                            for pair in pairs
                        ]
                        self.check(component, [0] * count, binary, [number] + list(chosen))
                        for other in others:
                            answer = [1, component] if other in chosen else [0]
                            self.check(other, [0] * count, binary, answer)


class OrderOfThePairs(SynergiesCase):
    def test_one_positive_pair_at_each_place(self):
        pairs = [(0, 1), (0, 2), (0, 3), (1, 2), (1, 3), (2, 3)]
        for place, (i, j) in enumerate(pairs):
            binary = with_element([-1, -2, -3, -4, -5, -6], place, 7)
            partners = [[], [], [], []]
            partners[i] = [j]
            partners[j] = [i]
            self.check_each([0] * 4, binary, partners)

    def test_one_pair_at_each_place_that_is_not_positive(self):
        pairs = [(0, 1), (0, 2), (0, 3), (1, 2), (1, 3), (2, 3)]
        for place, (i, j) in enumerate(pairs):
            for number in (0, -7):
                binary = with_element([1, 2, 3, 4, 5, 6], place, number)
                partners = [others_than(component, 4) for component in range(4)]
                partners[i].remove(j)
                partners[j].remove(i)
                self.check_each([0] * 4, binary, partners)

    def test_order_with_three_components(self):
        # 4 - 2 * 110, 4 * 456 - 2 * 910 = 4, 4 * 499 - 2 * 1000 = -4
        self.check_each([10, 100, 900], [1, 456, 499], [[2], [], [0]])
        # 4 * 56 - 2 * 110 = 4, 4 * 454 - 2 * 910 = -4, 4 * 501 - 2 * 1000 = 4
        self.check_each([10, 100, 900], [56, 454, 501], [[1], [0, 2], [1]])

    def test_order_with_four_components_and_their_pure_responses(self):
        # The sums of the pairs are 11, 101, 801, 110, 810, 900.
        pure = [1, 10, 100, 800]
        # The interactions are 2, -2, 2, 0, -4, 4.
        self.check_each(pure, [6, 50, 401, 55, 404, 451], [[1, 3], [0], [3], [0, 2]])
        # The interactions are -2, 2, -2, 4, 0, -4.
        self.check_each(pure, [5, 51, 400, 56, 405, 449], [[2], [2], [0, 1], []])


class Signs(SynergiesCase):
    def test_nearest_to_zero(self):
        # 4 * 1 - 2 * 1 = 2, 4 * 0 - 2 * 1 = -2
        self.check_each([0, 1], [1], [[1], [0]])
        self.check_each([0, 1], [0], [[], []])
        self.check_each([1, 0], [1], [[1], [0]])
        self.check_each([1, 0], [0], [[], []])
        # 4 * 0 - 2 * -1 = 2, 4 * -1 - 2 * -1 = -2
        self.check_each([0, -1], [0], [[1], [0]])
        self.check_each([0, -1], [-1], [[], []])
        # 3996 - 2 * 1997 = 2, 3992 - 2 * 1997 = -2
        self.check_each([999, 998], [999], [[1], [0]])
        self.check_each([999, 998], [998], [[], []])
        # -3992 + 2 * 1997 = 2, -3996 + 2 * 1997 = -2
        self.check_each([-999, -998], [-998], [[1], [0]])
        self.check_each([-999, -998], [-999], [[], []])

    def test_nearest_to_zero_at_each_place(self):
        # With 1 for one pure response, its interactions are -2 or 2, the others are 0.
        for count in (2, 3, 4):
            for i, j in itertools.permutations(range(count), 2):
                pairs = itertools.combinations(range(count), 2)
                binary = [int(i in pair and j in pair) for pair in pairs]
                partners = partners_of([(i, j)], count)
                self.check_each(placed(count, [i], [1]), binary, partners)

    def test_zero_is_not_positive(self):
        self.check_each([0, 0], [0], [[], []])
        self.check_each([7, -7], [0], [[], []])
        self.check_each([-4, -8], [-6], [[], []])
        self.check_each([999, 999], [999], [[], []])
        self.check_each([5, 5, 5], [5, 5, 5], [[], [], []])
        self.check_each([2, 4, 6, 8], [3, 4, 5, 5, 6, 7], [[], [], [], []])

    def test_every_choice_of_signs(self):
        for pure in ([0, 0], [3, -3], [0, 0, 0], [5, -1, 7], [0, 0, 0, 0], [5, -1, 7, -11], [2, 4, 6, 8]):
            pairs = list(itertools.combinations(range(len(pure)), 2))
            for signs in itertools.product((-1, 0, 1), repeat=len(pairs)):
                positive = [pair for pair, sign in zip(pairs, signs) if sign > 0]
                self.check_each(pure, nearest_binary(pure, signs), partners_of(positive, len(pure)))

    def test_every_choice_of_signs_with_odd_sums(self):
        for pure in ([0, 1], [-4, 9], [0, 1, 2], [8, -5, 3], [0, 1, 0, 1], [5, -3, 8, 2], [-7, 2, -6, -4]):
            pairs = list(itertools.combinations(range(len(pure)), 2))
            for signs in itertools.product((-1, 1), repeat=len(pairs)):
                positive = [pair for pair, sign in zip(pairs, signs) if sign > 0]
                self.check_each(pure, nearest_binary(pure, signs), partners_of(positive, len(pure)))


class AgreesWithInteractions(SynergiesCase):
    def check_agreement(self, pure, binary):
        count = len(pure)
        told = interactions(list(pure), list(binary))
        pairs = list(itertools.combinations(range(count), 2))
        self.assertEqual(told[0], len(pairs))
        # A denominator is above 0, so the numerator has the sign of the interaction.
        positive = [pair for pair, numerator in zip(pairs, told[1::2]) if numerator > 0]
        self.check_each(pure, binary, partners_of(positive, count))

    def test_many_responses(self):
        for pure, binary, _ in sweep(1000):
            self.check_agreement(pure, binary)

    def test_small_responses(self):
        for pure in itertools.product(range(-3, 4), repeat=2):
            for response in range(-3, 4):
                self.check_agreement(pure, [response])
        for pure in itertools.product((-1, 0, 1), repeat=3):
            for binary in itertools.product((-1, 0, 1), repeat=3):
                self.check_agreement(pure, binary)

    def test_every_response(self):
        for response in range(-999, 1000):
            self.check_agreement([response], [])
            self.check_agreement([response, 20], [18])
            self.check_agreement([10, response], [18])
            self.check_agreement([10, 20], [response])

    def test_the_component_itself_is_never_told(self):
        for pure, binary, _ in sweep(200):
            for component in range(len(pure)):
                with self.subTest(component=component, pure=pure, binary=binary):
                    answer = synergies(component, pure, binary)
                    self.assertEqual(answer[0], len(answer) - 1)
                    self.assertNotIn(component, answer[1:])
                    self.assertEqual(answer[1:], sorted(set(answer[1:])))


class Edges(SynergiesCase):
    def test_largest_and_smallest_interactions(self):
        # 4 * 999 + 2 * 1998, and the same below 0
        for count, pair_count in PAIR_COUNTS.items():
            all_others = [others_than(component, count) for component in range(count)]
            self.check_each([-999] * count, [999] * pair_count, all_others)
            self.check_each([999] * count, [-999] * pair_count, [[]] * count)

    def test_all_responses_alike(self):
        for number in (-999, 999):
            for count, pair_count in PAIR_COUNTS.items():
                self.check_each([number] * count, [number] * pair_count, [[]] * count)

    def test_one_pure_element_at_its_edge(self):
        for place in range(4):
            # Below 0 it makes its own interactions positive.
            partners = [[place] for component in range(4)]
            partners[place] = others_than(place, 4)
            for number in (-999, -998):
                self.check_each(with_element([0] * 4, place, number), [0] * 6, partners)
            for number in (998, 999):
                self.check_each(with_element([0] * 4, place, number), [0] * 6, [[], [], [], []])

    def test_one_binary_element_at_its_edge(self):
        for place, pair in enumerate(itertools.combinations(range(4), 2)):
            for number in (998, 999):
                binary = with_element([0] * 6, place, number)
                self.check_each([0] * 4, binary, partners_of([pair], 4))
            for number in (-999, -998):
                self.check_each([0] * 4, with_element([0] * 6, place, number), [[], [], [], []])

    def test_first_and_last_component(self):
        for count, pair_count in PAIR_COUNTS.items():
            ones = [1] * pair_count
            self.check(0, [0] * count, ones, [count - 1] + list(range(1, count)))
            self.check(count - 1, [0] * count, ones, [count - 1] + list(range(count - 1)))


class Refusals(SynergiesCase):
    def test_component_that_does_not_exist(self):
        for count, pair_count in PAIR_COUNTS.items():
            for number in (-999, 0, 1, 999):
                for component in (count, count + 1) + FAR_COMPONENTS:
                    self.check(component, [number] * count, [number] * pair_count, [-2])
                    self.check(component, [number] * count, [999] * pair_count, [-2])

    def test_component_that_exists_with_more_components_alone(self):
        self.check(1, [7], [], [-2])
        self.check(2, [10, 20], [18], [-2])
        self.check(3, THREE_PURE, THREE_BINARY, [-2])
        self.check(4, FOUR_PURE, FOUR_BINARY, [-2])

    def test_pure_or_binary_outside_the_limits(self):
        for pure, binary in wrong_responses():
            for component in range(max(1, len(pure))):
                self.check(component, pure, binary, [-22])

    def test_wrong_elements_that_the_component_has_no_part_in(self):
        self.check(0, [1, 1, 1], [1, 1, 1000], [-22])
        self.check(2, [1, 1, 1], [-1000, 1, 1], [-22])
        self.check(0, [1, 1, 1, 1], [0, 0, 0, 0, 0, -2147483648], [-22])

    def test_wrong_responses_come_ahead_of_a_wrong_component(self):
        for pure, binary in wrong_responses():
            for component in (len(pure), len(pure) + 1) + FAR_COMPONENTS:
                self.check(component, pure, binary, [-22])

    def test_cutting_off_what_is_too_many_is_no_way_out(self):
        self.check(0, [10, 20], [18, 0], [-22])
        self.check(0, [10, 20, 0, 0, 0], [18], [-22])
        self.check(2, [10, 20, 0], [18], [-22])
        self.check(0, [7], [7], [-22])


class Calls(CallChecks, unittest.TestCase):
    FUNCTION = staticmethod(synergies)
    CALLS = (
        (0, [10, 20], [18]),
        (1, [10, 20], [18]),
        (1, FOUR_PURE, FOUR_BINARY),
        (2, EVEN_PURE, EVEN_BINARY),
        (1, [1, 2, 4], [3, -5, 8]),
        (0, [7], []),
        (2, [10, 20], [18]),
        (4294967295, FOUR_PURE, FOUR_BINARY),
        (0, [10, 1000], [18]),
        (9, [10, 20], []),
        (0, [], [18] * 8),
    )

    def test_one_list_as_two_arguments(self):
        numbers = [1, 2, 4]
        # 4 - 2 * 3, 8 - 2 * 5, 16 - 2 * 6
        self.assertEqual(synergies(2, numbers, numbers), [1, 1])
        self.assertEqual(numbers, [1, 2, 4])

    def test_arguments_changed_by_the_caller_count(self):
        pure = [10, 20]
        binary = [18]
        self.assertEqual(synergies(1, pure, binary), [1, 0])
        binary[0] = 15
        self.assertEqual(synergies(1, pure, binary), [0])
        pure[0] = 9
        self.assertEqual(synergies(1, pure, binary), [1, 0])
        binary.append(1)
        self.assertEqual(synergies(1, pure, binary), [-22])
        binary.clear()
        pure.pop()
        self.assertEqual(synergies(1, pure, binary), [-2])

    def test_arguments_by_their_names(self):
        self.assertEqual(synergies(component=0, pure=[10, 20], binary=[18]), [1, 1])


if __name__ == "__main__":
    unittest.main()
