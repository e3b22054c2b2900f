"""Responses of mixtures under the quadratic mixture model."""

OUT_OF_LIMITS = -22

MOST_COMPONENTS = 4
LARGEST_RESPONSE = 999
MOST_PARTS = 99


def all_between(numbers, low, high):
    """Tell whether every number lies from low to high, both included."""
    return all([low <= number <= high for number in numbers])


def component_pairs(component_count):
    """List the pairs (i, j) of components with i < j in lexicographic order."""
    pairs = []
    for i in range(component_count):
        for j in range(i + 1, component_count):
            pairs.append((i, j))
    return pairs


def responses_within_limits(pure, binary):
    """Tell whether pure and binary are what the model can be made of."""
    if not 1 <= len(pure) <= MOST_COMPONENTS:
        return False
    if len(binary) != len(component_pairs(len(pure))):
        return False
    if not all_between(pure, -LARGEST_RESPONSE, LARGEST_RESPONSE):
        return False
    return all_between(binary, -LARGEST_RESPONSE, LARGEST_RESPONSE)


def mixture_within_limits(mixture, component_count):
    """Tell whether mixture gives parts to each of so many components."""
    if len(mixture) != component_count:
        return False
    return all_between(mixture, 0, MOST_PARTS) and sum(mixture) > 0


def lowest_terms(numerator, denominator):
    """Give [numerator, denominator] without common divisors, for a denominator above 0."""
    divisor = denominator
    rest = abs(numerator)
    while rest != 0:
        next_rest = divisor % rest
        divisor = rest
        rest = next_rest
    return [numerator // divisor, denominator // divisor]


def pair_interactions(pure, binary):
    """List the interaction of each pair, in the order of the pairs."""
    found = []
    for pair, pair_response in zip(component_pairs(len(pure)), binary):
        found.append(4 * pair_response - 2 * (pure[pair[0]] + pure[pair[1]]))
    return found


def predicted_response(pure, binary, mixture):
    """Give the predicted response of a mixture as [numerator, denominator]."""
    total = sum(mixture)
    pure_sum = 0
    for parts, response in zip(mixture, pure):
        pure_sum = pure_sum + parts * response
    pair_sum = 0
    for pair, interaction in zip(component_pairs(len(pure)), pair_interactions(pure, binary)):
        pair_sum = pair_sum + interaction * mixture[pair[0]] * mixture[pair[1]]
    # A fraction is parts / total, so all terms are whole over total * total.
    return lowest_terms(pure_sum * total + pair_sum, total * total)


def predict(pure, binary, mixture):
    """Answer 0 and the predicted response of the mixture, or the error code."""
    if not responses_within_limits(pure, binary):
        return [OUT_OF_LIMITS]
    if not mixture_within_limits(mixture, len(pure)):
        return [OUT_OF_LIMITS]
    return [0] + predicted_response(pure, binary, mixture)


def interactions(pure, binary):
    """Answer the number of pairs and the interaction of each, or the error code."""
    if not responses_within_limits(pure, binary):
        return [OUT_OF_LIMITS]
    found = pair_interactions(pure, binary)
    answer = [len(found)]
    for interaction in found:
        # Whole responses make every interaction whole, so it is over 1.
        answer.extend([interaction, 1])
    return answer
