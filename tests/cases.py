"""What the tests of several functions have in common."""

import contextlib
import copy
import functools
import io
import itertools
from fractions import Fraction

# Four components whose six interactions are 24, -34, -2, -26, 22, -44.
FOUR_PURE = [5, -3, 8, 2]
FOUR_BINARY = [7, -2, 3, -4, 5, -6]

# Three components whose interactions are 18, 18, 20.
THREE_PURE = [1, 2, 4]
THREE_BINARY = [6, 7, 8]

# Four components whose interactions are all 40.
EVEN_PURE = [2, 4, 6, 8]
EVEN_BINARY = [13, 14, 15, 15, 16, 17]

# The length of binary that belongs to each length of pure within the limits.
PAIR_COUNTS = {1: 0, 2: 1, 3: 3, 4: 6}

# What lies just outside and far outside the limits of pure and binary.
WRONG_RESPONSES = (-1000, 1000, -2147483648, 2147483647)

# What lies just outside and far outside the limits of the parts of a mixture.
TOO_MANY_PARTS = (100, 101, 255, 256, 65536, 2147483648, 4294967295)


class UnchangingList(list):
    """A list that can be read as ever, and fails when something would change it."""

    def refuse_change(self, *args, **kwargs):
        raise AssertionError("an argument was changed")

    __setitem__ = __delitem__ = __iadd__ = __imul__ = refuse_change
    append = extend = insert = pop = remove = clear = sort = reverse = refuse_change


def with_element(numbers, place, number):
    """A copy of a list with another number at one place."""
    changed = list(numbers)
    changed[place] = number
    return changed


def placed(count, places, parts):
    """A mixture with the given parts at the given places, and no others."""
    mixture = [0] * count
    for place, number in zip(places, parts):
        mixture[place] = number
    return mixture


@functools.cache
def every_mixture(count, parts):
    """All mixtures of so many components with so many parts, in lexicographic order."""
    ranges = itertools.product(range(parts + 1), repeat=count)
    return [list(mixture) for mixture in ranges if sum(mixture) == parts]


def wrong_pure_lengths():
    """Pairs (pure, binary) in which pure is empty or too long."""
    found = []
    for pure_length in (0, 5, 6):
        for binary_length in range(9):
            found.append(([1] * pure_length, [2] * binary_length))
    return found


def wrong_binary_lengths():
    """Pairs (pure, binary) in which only the length of binary is wrong."""
    found = []
    for pure_length, pair_count in PAIR_COUNTS.items():
        for binary_length in range(9):
            if binary_length != pair_count:
                found.append(([1] * pure_length, [2] * binary_length))
    return found


def wrong_elements():
    """Pairs (pure, binary) in which only one element is outside its limits."""
    found = []
    for pure_length, pair_count in PAIR_COUNTS.items():
        pure = [1] * pure_length
        binary = [2] * pair_count
        for number in WRONG_RESPONSES:
            for place in range(pure_length):
                found.append((with_element(pure, place, number), binary))
            for place in range(pair_count):
                found.append((pure, with_element(binary, place, number)))
    return found


def several_wrong_responses():
    """Pairs (pure, binary) in which several things are wrong at once."""
    return [
        ([], [1000]),
        ([1000, -1000], [1000]),
        ([1000, -1000], []),
        ([2147483647] * 4, [-2147483648] * 6),
        ([1000, 1, 1], [1, 1, 1, -1000]),
        ([-2147483648] * 6, [2147483647] * 8),
        ([1000] * 5, [1000] * 8),
        ([1000], [1]),
        # Two wrong elements that cancel in a sum.
        ([1000, -1000], [0]),
        ([0, 0, 0], [1000, 0, -1000]),
    ]


def wrong_responses():
    """All the pairs (pure, binary) that are to be refused."""
    return (
        wrong_pure_lengths()
        + wrong_binary_lengths()
        + wrong_elements()
        + several_wrong_responses()
    )


def wrong_mixtures(count):
    """All the mixtures that are to be refused for so many components."""
    found = [[0] * count]
    for length in range(7):
        if length != count:
            found.append([1] * length)
            # Parts in the front alone, so that cutting it off would pass.
            found.append(([1] + [0] * 5)[:length])
    for parts in TOO_MANY_PARTS:
        found.append([parts] * count)
        for place in range(count):
            for others in (0, 1, 99):
                found.append(with_element([others] * count, place, parts))
    return found


def sweep(rounds):
    """Many triples (pure, binary, mixture) within the limits, the same ones each time."""
    found = []
    state = 1

    def draw(low, high):
        nonlocal state
        state = (state * 1103515245 + 12345) % 2147483648
        # The low bits of such a sequence repeat soon.
        return low + state // 65536 % (high - low + 1)

    for count, pair_count in PAIR_COUNTS.items():
        for turn in range(rounds):
            # Small numbers in every other turn, for more zeros and common divisors.
            response, parts = ((999, 99), (6, 3))[turn % 2]
            pure = [draw(-response, response) for place in range(count)]
            binary = [draw(-response, response) for place in range(pair_count)]
            mixture = [draw(0, parts) for place in range(count)]
            if sum(mixture) > 0:
                found.append((pure, binary, mixture))
    return found


def fractions_of(mixture):
    """The fraction of each component of a mixture."""
    return [Fraction(parts, sum(mixture)) for parts in mixture]


def defined_response(pure, binary, x):
    """The predicted response of fractions, followed word by word."""
    response = Fraction(0)
    for i, pure_response in enumerate(pure):
        response = response + x[i] * pure_response
    pairs = itertools.combinations(range(len(pure)), 2)
    for (i, j), pair_response in zip(pairs, binary):
        interaction = 4 * pair_response - 2 * (pure[i] + pure[j])
        response = response + interaction * x[i] * x[j]
    return response


def rational(fraction):
    """The two numbers that tell a fraction in an answer."""
    return [fraction.numerator, fraction.denominator]


class CallChecks:
    """What holds of every call. A test case adds FUNCTION and CALLS, its arguments."""

    def answer_of(self, call):
        return self.FUNCTION(*copy.deepcopy(call))

    def test_arguments_stay_as_they_were(self):
        for call in self.CALLS:
            arguments = copy.deepcopy(call)
            self.FUNCTION(*arguments)
            self.assertEqual(arguments, call)

    def test_arguments_are_not_changed_for_a_while_either(self):
        for call in self.CALLS:
            arguments = [UnchangingList(part) if isinstance(part, list) else part for part in call]
            self.assertEqual(self.FUNCTION(*arguments), self.answer_of(call))

    def test_second_call_gives_the_same(self):
        for call in self.CALLS:
            arguments = copy.deepcopy(call)
            answer = self.FUNCTION(*arguments)
            self.assertEqual(self.FUNCTION(*arguments), answer)
            for other in self.CALLS:
                self.answer_of(other)
            self.assertEqual(self.FUNCTION(*arguments), answer)

    def test_an_answer_belongs_to_the_caller(self):
        for call in self.CALLS:
            answer = self.answer_of(call)
            kept = list(answer)
            answer.append(5)
            answer[0] = 6
            self.assertEqual(self.answer_of(call), kept)

    def test_kinds_of_what_is_answered(self):
        for call in self.CALLS:
            answer = self.answer_of(call)
            self.assertIs(type(answer), list)
            for number in answer:
                self.assertIs(type(number), int)

    def test_prints_nothing(self):
        out = io.StringIO()
        with contextlib.redirect_stdout(out), contextlib.redirect_stderr(out):
            for call in self.CALLS:
                self.answer_of(call)
        self.assertEqual(out.getvalue(), "")
