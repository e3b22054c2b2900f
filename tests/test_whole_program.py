"""Tests of what the document promises of the functions together."""

import ast
import copy
import importlib.util
import inspect
import itertools
import math
import pathlib
import unittest
from fractions import Fraction

import pairblend.responses
from tests.cases import (
    EVEN_BINARY,
    EVEN_PURE,
    FOUR_BINARY,
    FOUR_PURE,
    PAIR_COUNTS,
    THREE_BINARY,
    THREE_PURE,
    UnchangingList,
    every_mixture,
    fractions_of,
    placed,
    rational,
    sweep,
    wrong_mixtures,
    wrong_responses,
)

PARAMETERS = {
    "predict": ["pure", "binary", "mixture"],
    "interactions": ["pure", "binary"],
    "best_mixture": ["parts", "pure", "binary"],
    "predict_combination": ["k", "m", "pure", "binary", "first", "second"],
    "synergies": ["component", "pure", "binary"],
    "count_mixtures": ["components", "parts"],
}

SOURCE = pathlib.Path(pairblend.responses.__file__)

# Responses of 1 to 4 components: ordinary ones, all alike, and those at their edges.
SOME_RESPONSES = [
    ([7], []),
    ([-999], []),
    ([10, 20], [18]),
    ([11, -12], [13]),
    ([999, -999], [0]),
    ([1, 2, 4], [3, -5, 8]),
    (THREE_PURE, THREE_BINARY),
    ([-999] * 3, [999] * 3),
    (FOUR_PURE, FOUR_BINARY),
    (EVEN_PURE, EVEN_BINARY),
    ([0] * 4, [0] * 6),
    ([999] * 4, [-999] * 6),
] + [(pure, binary) for pure, binary, _ in sweep(6)]

TOO_LARGE = (100, 4294967295)


def call(name, arguments, functions=pairblend.responses):
    """Call a function by its name with arguments of its own."""
    return getattr(functions, name)(*copy.deepcopy(arguments))


def fresh_functions():
    """The functions as they are before any call."""
    spec = importlib.util.spec_from_file_location("fresh_responses", SOURCE)
    module = importlib.util.module_from_spec(spec)
    spec.loader.exec_module(module)
    return module


def right_calls():
    """Pairs (name, arguments) that are not refused."""
    found = []
    for pure, binary, mixture in sweep(12):
        other = list(reversed(mixture))
        found.append(("predict", (pure, binary, mixture)))
        found.append(("interactions", (pure, binary)))
        found.append(("best_mixture", (1 + sum(mixture) % 10, pure, binary)))
        found.append(("predict_combination", (3, max(1, mixture[0]), pure, binary, mixture, other)))
        found.append(("predict_combination", (99, 98, pure, binary, other, mixture)))
        found.append(("synergies", (sum(mixture) % len(pure), pure, binary)))
    for components in range(1, 5):
        for parts in range(21):
            found.append(("count_mixtures", (components, parts)))
    return found


def calls_with_wrong_responses():
    """Triples (name, arguments, code) in which pure or binary is wrong, or more than these."""
    found = []
    for pure, binary in wrong_responses():
        ones = [1] * len(pure)
        found.append(("interactions", (pure, binary), -22))
        for mixture in (ones, [0] * len(pure), []):
            found.append(("predict", (pure, binary, mixture), -22))
            found.append(("predict_combination", (1, 2, pure, binary, mixture, ones), -22))
        found.append(("predict_combination", (0, 100, pure, binary, ones, ones), -22))
        for parts in (0, 1, 10, 11):
            found.append(("best_mixture", (parts, pure, binary), -22))
        for component in (0, len(pure), 4294967295):
            found.append(("synergies", (component, pure, binary), -22))
    return found


def calls_with_wrong_others():
    """Triples (name, arguments, code) in which pure and binary are right, but no more."""
    found = []
    for count, pair_count in PAIR_COUNTS.items():
        pure = [1] * count
        binary = [2] * pair_count
        for mixture in wrong_mixtures(count):
            found.append(("predict", (pure, binary, mixture), -22))
            found.append(("predict_combination", (1, 2, pure, binary, mixture, pure), -22))
            found.append(("predict_combination", (1, 2, pure, binary, pure, mixture), -22))
        for share in (0,) + TOO_LARGE:
            found.append(("predict_combination", (share, 1, pure, binary, pure, pure), -22))
            found.append(("predict_combination", (1, share, pure, binary, pure, pure), -22))
        for parts in (0, 11) + TOO_LARGE:
            found.append(("best_mixture", (parts, pure, binary), -22))
        for component in (count, count + 1) + TOO_LARGE:
            found.append(("synergies", (component, pure, binary), -2))
    for components in (0, 5) + TOO_LARGE:
        for parts in (0, 20, 21) + TOO_LARGE:
            found.append(("count_mixtures", (components, parts), -22))
    for parts in (21,) + TOO_LARGE:
        found.append(("count_mixtures", (4, parts), -22))
    return found


def refused_calls():
    """Triples (name, arguments, code) of all functions."""
    return calls_with_wrong_responses() + calls_with_wrong_others()


def mixed_calls():
    """Some calls of every function, those that are refused among them, in a mixed order."""
    right = right_calls()
    refused = [(name, arguments) for name, arguments, _ in refused_calls()[::23]]
    # The functions take turns six by six, so that every fifth call comes by each of them.
    calls = right[::5] + refused
    # A step without a common divisor with the length comes by every one of them.
    step = next(step for step in range(17, len(calls)) if math.gcd(step, len(calls)) == 1)
    return [calls[turn * step % len(calls)] for turn in range(len(calls))]


def split_answer(name, answer):
    """The numbers of an answer that are no rational, and the rationals, as pairs."""
    starts = {
        "predict": 1,
        "interactions": 1,
        "best_mixture": answer[0] + 1,
        "predict_combination": 1,
        "synergies": len(answer),
        "count_mixtures": len(answer),
    }
    start = starts[name]
    return answer[:start], list(zip(answer[start::2], answer[start + 1 :: 2]))


class Examples(unittest.TestCase):
    def check(self, name, arguments, answer):
        with self.subTest(name=name, arguments=arguments):
            self.assertEqual(call(name, arguments), answer)

    def test_every_row(self):
        self.check("interactions", ([10, 20], [18]), [1, 12, 1])
        self.check("predict", ([10, 20], [18], [1, 1]), [0, 18, 1])
        self.check("best_mixture", (2, [10, 20], [18]), [2, 0, 2, 20, 1])
        self.check("synergies", (0, [10, 20], [18]), [1, 1])
        self.check("predict", ([10, 20], [18], [0, 0]), [-22])


class Interpolation(unittest.TestCase):
    def check(self, pure, binary, mixture, response):
        with self.subTest(pure=pure, binary=binary, mixture=mixture):
            self.assertEqual(call("predict", (pure, binary, mixture)), [0, response, 1])

    def test_pure_components(self):
        for pure, binary in SOME_RESPONSES:
            for place, response in enumerate(pure):
                for parts in (1, 2, 3, 50, 98, 99):
                    self.check(pure, binary, placed(len(pure), [place], [parts]), response)

    def test_even_mixtures_of_two(self):
        for pure, binary in SOME_RESPONSES:
            pairs = itertools.combinations(range(len(pure)), 2)
            for pair, response in zip(pairs, binary):
                for parts in (1, 2, 3, 50, 98, 99):
                    self.check(pure, binary, placed(len(pure), pair, [parts, parts]), response)


def model_terms(count):
    """The places that each term of a model multiplies: each fraction, and two different ones."""
    alone = [(place,) for place in range(count)]
    return alone + list(itertools.combinations(range(count), 2))


def term_value(term, x):
    """A term's value for fractions x."""
    value = Fraction(1)
    for place in term:
        value = value * x[place]
    return value


def solved(rows):
    """The unknowns of linear equations, each row being the factors and what they add up to."""
    rows = [list(row) for row in rows]
    for column in range(len(rows)):
        pivot = next(place for place in range(column, len(rows)) if rows[place][column] != 0)
        rows[column], rows[pivot] = rows[pivot], rows[column]
        rows[column] = [number / rows[column][column] for number in rows[column]]
        for place, row in enumerate(rows):
            if place != column:
                rows[place] = [
                    number - row[column] * taken for number, taken in zip(row, rows[column])
                ]
    return [row[-1] for row in rows]


def solved_model(pure, binary):
    """Multiples of the terms, worked out of nothing but the given responses."""
    count = len(pure)
    terms = model_terms(count)
    mixtures = [placed(count, [place], [1]) for place in range(count)]
    mixtures.extend(placed(count, pair, [1, 1]) for pair in itertools.combinations(range(count), 2))
    rows = []
    for mixture, response in zip(mixtures, pure + binary):
        x = fractions_of(mixture)
        rows.append([term_value(term, x) for term in terms] + [Fraction(response)])
    return list(zip(terms, solved(rows)))


class Uniqueness(unittest.TestCase):
    def check_model(self, pure, binary, model, mixtures):
        for mixture in mixtures:
            with self.subTest(pure=pure, binary=binary, mixture=mixture):
                x = fractions_of(mixture)
                response = sum(multiple * term_value(term, x) for term, multiple in model)
                self.assertEqual(call("predict", (pure, binary, mixture)), [0] + rational(response))

    def mixtures_to_try(self, count):
        small = [list(mixture) for mixture in itertools.product((0, 1, 2, 5), repeat=count)]
        large = [mixture for _, _, mixture in sweep(20) if len(mixture) == count]
        return [mixture for mixture in small if sum(mixture) > 0] + large

    def test_model_that_agrees_with_the_given_responses(self):
        for pure, binary in SOME_RESPONSES:
            model = solved_model(pure, binary)
            self.check_model(pure, binary, model, self.mixtures_to_try(len(pure)))

    def test_model_that_the_given_responses_are_made_of(self):
        multiples = [6, -14, 20, -2]
        products = [12, -28, 8, 40, -4, 16]
        for count, pair_count in PAIR_COUNTS.items():
            model = list(zip(model_terms(count), multiples[:count] + products[:pair_count]))
            pairs = itertools.combinations(range(count), 2)
            binary = [
                (multiples[i] + multiples[j]) // 2 + product // 4
                for (i, j), product in zip(pairs, products)
            ]
            self.check_model(multiples[:count], binary, model, self.mixtures_to_try(count))

    def test_model_with_its_products_in_several_terms(self):
        # x * y and y * x are one product, told in two shares.
        for pure, binary in SOME_RESPONSES:
            model = []
            for term, multiple in solved_model(pure, binary):
                model.append((term, multiple - 5))
                model.append((term[::-1], 5))
            self.check_model(pure, binary, model, every_mixture(len(pure), 7))


class Optimality(unittest.TestCase):
    def test_no_mixture_is_predicted_larger(self):
        for pure, binary in SOME_RESPONSES:
            for parts in range(1, 11):
                with self.subTest(parts=parts, pure=pure, binary=binary):
                    answer = call("best_mixture", (parts, pure, binary))
                    best = answer[1:-2]
                    self.assertEqual(sum(best), parts)
                    self.assertEqual(call("predict", (pure, binary, best)), [0] + answer[-2:])
                    largest = Fraction(answer[-2], answer[-1])
                    for mixture in every_mixture(len(pure), parts):
                        predicted = call("predict", (pure, binary, mixture))
                        response = Fraction(predicted[1], predicted[2])
                        self.assertLessEqual(response, largest)
                        # Those ahead of the first of a tie are all smaller.
                        if mixture < best:
                            self.assertLess(response, largest)


class NumberOfMixtures(unittest.TestCase):
    def test_binomial_coefficient(self):
        for components in range(1, 5):
            for parts in range(21):
                number = math.comb(parts + components - 1, components - 1)
                self.assertEqual(call("count_mixtures", (components, parts)), [number])

    def test_best_mixture_is_one_of_so_many(self):
        for pure, binary in SOME_RESPONSES:
            for parts in range(1, 11):
                mixtures = every_mixture(len(pure), parts)
                self.assertEqual(call("count_mixtures", (len(pure), parts)), [len(mixtures)])
                self.assertIn(call("best_mixture", (parts, pure, binary))[1:-2], mixtures)


class Agreement(unittest.TestCase):
    """What two functions tell of the same responses."""

    def test_synergies_and_interactions(self):
        for pure, binary in SOME_RESPONSES:
            told = call("interactions", (pure, binary))
            pairs = list(itertools.combinations(range(len(pure)), 2))
            positive = [pair for pair, numerator in zip(pairs, told[1::2]) if numerator > 0]
            for component in range(len(pure)):
                partners = [sum(pair) - component for pair in positive if component in pair]
                answer = call("synergies", (component, pure, binary))
                self.assertEqual(answer, [len(partners)] + sorted(partners))

    def test_even_mixtures_of_two_and_interactions(self):
        # A quarter of the interaction lies between the response and the mean of the pure ones.
        for pure, binary in SOME_RESPONSES:
            told = call("interactions", (pure, binary))
            pairs = itertools.combinations(range(len(pure)), 2)
            for pair, numerator, denominator in zip(pairs, told[1::2], told[2::2]):
                first = placed(len(pure), pair[:1], [1])
                second = placed(len(pure), pair[1:], [1])
                answer = call("predict_combination", (1, 1, pure, binary, first, second))
                response = Fraction(answer[1], answer[2])
                mean = Fraction(answer[3], answer[4])
                self.assertEqual(4 * (response - mean), Fraction(numerator, denominator))

    def test_combination_and_predict(self):
        for pure, binary, mixture in sweep(20):
            pure_component = placed(len(pure), [0], [1])
            predicted = call("predict", (pure, binary, mixture))
            answer = call("predict_combination", (4, 5, pure, binary, mixture, mixture))
            self.assertEqual(answer, predicted + predicted[1:])
            answer = call("predict_combination", (4, 5, pure, binary, mixture, pure_component))
            mean = (4 * Fraction(predicted[1], predicted[2]) + 5 * pure[0]) / 9
            self.assertEqual(answer[3:], rational(mean))


class Errors(unittest.TestCase):
    def test_an_error_is_the_code_alone(self):
        for name, arguments, code in refused_calls():
            with self.subTest(name=name, arguments=arguments):
                self.assertEqual(call(name, arguments), [code])

    def test_every_function_is_among_the_calls(self):
        self.assertEqual({name for name, _ in right_calls()}, set(PARAMETERS))
        self.assertEqual({name for name, _, _ in refused_calls()}, set(PARAMETERS))
        self.assertEqual({code for _, _, code in refused_calls()}, {-2, -22})
        mixed = [(name, call(name, arguments)[0] < 0) for name, arguments in mixed_calls()]
        self.assertEqual(set(mixed), set(itertools.product(PARAMETERS, (False, True))))

    def test_the_largest_arguments_of_all(self):
        pure = [2147483647] * 6
        binary = [-2147483648] * 8
        parts = [4294967295] * 6
        self.assertEqual(call("predict", (pure, binary, parts)), [-22])
        self.assertEqual(call("interactions", (pure, binary)), [-22])
        self.assertEqual(call("best_mixture", (parts[0], pure, binary)), [-22])
        combination = (parts[0], parts[0], pure, binary, parts, parts)
        self.assertEqual(call("predict_combination", combination), [-22])
        self.assertEqual(call("synergies", (parts[0], pure, binary)), [-22])
        self.assertEqual(call("count_mixtures", (parts[0], parts[0])), [-22])


class Answers(unittest.TestCase):
    def test_lengths(self):
        for name, arguments in right_calls():
            with self.subTest(name=name, arguments=arguments):
                answer = call(name, arguments)
                lengths = {
                    "predict": 3,
                    "interactions": 1 + 2 * answer[0],
                    "best_mixture": 3 + answer[0],
                    "predict_combination": 5,
                    "synergies": 1 + answer[0],
                    "count_mixtures": 1,
                }
                self.assertEqual(len(answer), lengths[name])

    def test_what_stands_first(self):
        for name, arguments in right_calls():
            with self.subTest(name=name, arguments=arguments):
                first = call(name, arguments)[0]
                if name in ("predict", "predict_combination"):
                    self.assertEqual(first, 0)
                if name == "interactions":
                    self.assertEqual(first, PAIR_COUNTS[len(arguments[0])])
                if name == "best_mixture":
                    self.assertEqual(first, len(arguments[1]))
                if name == "synergies":
                    self.assertLess(first, len(arguments[1]))
                self.assertGreaterEqual(first, 0)

    def test_only_a_numerator_is_ever_below_zero(self):
        below_zero = set()
        for name, arguments in right_calls():
            with self.subTest(name=name, arguments=arguments):
                numbers, rationals = split_answer(name, call(name, arguments))
                for number in numbers:
                    self.assertGreaterEqual(number, 0)
                for numerator, denominator in rationals:
                    self.assertGreaterEqual(denominator, 1)
                    if numerator < 0:
                        below_zero.add(name)
        expected = {"predict", "interactions", "best_mixture", "predict_combination"}
        self.assertEqual(below_zero, expected)

    def test_rationals_are_in_lowest_terms(self):
        zeros = 0
        for name, arguments in right_calls():
            with self.subTest(name=name, arguments=arguments):
                _, rationals = split_answer(name, call(name, arguments))
                for numerator, denominator in rationals:
                    self.assertEqual(math.gcd(numerator, denominator), 1)
                    if numerator == 0:
                        self.assertEqual(denominator, 1)
                        zeros += 1
        self.assertGreater(zeros, 0)

    def test_kinds(self):
        calls = right_calls() + [(name, arguments) for name, arguments, _ in refused_calls()]
        for name, arguments in calls:
            with self.subTest(name=name, arguments=arguments):
                answer = call(name, arguments)
                self.assertIs(type(answer), list)
                self.assertEqual({type(number) for number in answer}, {int})


class Calls(unittest.TestCase):
    def test_what_is_handed_in_is_not_changed(self):
        for name, arguments in mixed_calls():
            with self.subTest(name=name, arguments=arguments):
                handed_in = copy.deepcopy(arguments)
                answer = getattr(pairblend.responses, name)(*handed_in)
                self.assertEqual(handed_in, arguments)
                guarded = [UnchangingList(part) if isinstance(part, list) else part for part in arguments]
                self.assertEqual(getattr(pairblend.responses, name)(*guarded), answer)

    def test_answer_does_not_depend_on_the_calls_ahead(self):
        calls = mixed_calls()
        alone = [call(name, arguments, fresh_functions()) for name, arguments in calls]
        functions = fresh_functions()
        forth = [call(name, arguments, functions) for name, arguments in calls]
        back = [call(name, arguments, functions) for name, arguments in reversed(calls)]
        twice = []
        for name, arguments in calls:
            call(name, arguments, functions)
            twice.append(call(name, arguments, functions))
        self.assertEqual(forth, alone)
        self.assertEqual(back[::-1], alone)
        self.assertEqual(twice, alone)

    def test_changed_answers_do_not_come_back(self):
        for name, arguments in mixed_calls():
            with self.subTest(name=name, arguments=arguments):
                answer = call(name, arguments)
                kept = list(answer)
                answer.clear()
                self.assertEqual(call(name, arguments), kept)

    def test_nothing_is_kept_in_the_module(self):
        functions = fresh_functions()

        def values():
            return {name: value for name, value in vars(functions).items() if not name.startswith("__")}

        kept = copy.deepcopy(values())
        for name, arguments in mixed_calls():
            call(name, arguments, functions)
        self.assertEqual(values(), kept)


class Interface(unittest.TestCase):
    def test_names_and_arguments(self):
        for name, parameters in PARAMETERS.items():
            function = getattr(pairblend.responses, name)
            self.assertEqual(function.__module__, "pairblend.responses")
            found = inspect.signature(function).parameters
            self.assertEqual(list(found), parameters)
            for parameter in found.values():
                self.assertIs(parameter.default, inspect.Parameter.empty)
                self.assertEqual(parameter.kind, inspect.Parameter.POSITIONAL_OR_KEYWORD)

    def test_nothing_from_outside_is_imported(self):
        for file in sorted(SOURCE.parent.glob("*.py")):
            for node in ast.walk(ast.parse(file.read_text(encoding="utf-8"))):
                self.assertNotIsInstance(node, ast.Import)
                if isinstance(node, ast.ImportFrom):
                    self.assertIn(node.module.split(".")[0], ("pairblend", "__future__"))


if __name__ == "__main__":
    unittest.main()
