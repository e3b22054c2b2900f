"""Tests of count_mixtures."""

import math
import unittest

from pairblend.responses import best_mixture, count_mixtures
from tests.cases import PAIR_COUNTS, CallChecks, every_mixture

RIGHT_COMPONENTS = range(1, 5)
RIGHT_PARTS = range(21)

WRONG_COMPONENTS = (
    0, 5, 6, 20, 255, 256, 257, 260, 65537, 65540, 2147483647, 2147483648, 2147483652, 4294967292, 4294967295,
)

WRONG_PARTS = (
    21, 22, 99, 100, 255, 256, 257, 276, 65536, 65556, 2147483647, 2147483648, 2147483668, 4294967276, 4294967295,
)


class CountCase(unittest.TestCase):
    def check(self, components, parts, answer):
        with self.subTest(components=components, parts=parts):
            self.assertEqual(count_mixtures(components, parts), answer)


class Counts(CountCase):
    def test_binomial_coefficient(self):
        for components in RIGHT_COMPONENTS:
            for parts in RIGHT_PARTS:
                self.check(components, parts, [math.comb(parts + components - 1, components - 1)])

    def test_number_of_mixtures(self):
        for components in RIGHT_COMPONENTS:
            for parts in RIGHT_PARTS:
                self.check(components, parts, [len(every_mixture(components, parts))])

    def test_no_parts(self):
        for components in RIGHT_COMPONENTS:
            self.check(components, 0, [1])

    def test_one_part_goes_to_one_component(self):
        for components in RIGHT_COMPONENTS:
            self.check(components, 1, [components])

    def test_one_component(self):
        for parts in RIGHT_PARTS:
            self.check(1, parts, [1])

    def test_two_components(self):
        # The parts of component 0 are 0 to all of them.
        for parts in RIGHT_PARTS:
            self.check(2, parts, [parts + 1])

    def test_three_components(self):
        for parts, answer in enumerate([1, 3, 6, 10, 15, 21, 28, 36, 45, 55, 66]):
            self.check(3, parts, [answer])
        self.check(3, 19, [210])
        self.check(3, 20, [231])

    def test_four_components(self):
        for parts, answer in enumerate([1, 4, 10, 20, 35, 56, 84, 120, 165, 220, 286]):
            self.check(4, parts, [answer])
        self.check(4, 19, [1540])
        self.check(4, 20, [1771])

    def test_last_component_left_out_or_not(self):
        # Without a part of the last component there is one component less, else one part less.
        for components in (2, 3, 4):
            for parts in range(1, 21):
                left_out = count_mixtures(components - 1, parts)[0]
                taken = count_mixtures(components, parts - 1)[0]
                self.check(components, parts, [left_out + taken])


class Refusals(CountCase):
    def test_wrong_components(self):
        for components in WRONG_COMPONENTS:
            for parts in RIGHT_PARTS:
                self.check(components, parts, [-22])

    def test_wrong_parts(self):
        for components in RIGHT_COMPONENTS:
            for parts in WRONG_PARTS:
                self.check(components, parts, [-22])

    def test_both_at_once(self):
        for components in WRONG_COMPONENTS:
            for parts in WRONG_PARTS:
                self.check(components, parts, [-22])

    def test_limits_are_not_those_of_best_mixture(self):
        for components, pair_count in PAIR_COUNTS.items():
            for parts in (0, 11, 20):
                self.check(components, parts, [len(every_mixture(components, parts))])
                refused = best_mixture(parts, [0] * components, [0] * pair_count)
                self.assertEqual(refused, [-22])


class Calls(CallChecks, unittest.TestCase):
    FUNCTION = staticmethod(count_mixtures)
    CALLS = (
        (1, 0),
        (1, 20),
        (2, 3),
        (3, 10),
        (4, 0),
        (4, 20),
        (0, 0),
        (5, 1),
        (4, 21),
        (4294967295, 4294967295),
    )

    def test_arguments_by_their_names(self):
        self.assertEqual(count_mixtures(components=3, parts=2), [6])


if __name__ == "__main__":
    unittest.main()
