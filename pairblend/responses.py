"""Responses of mixtures under the quadratic mixture model."""

NO_SUCH_COMPONENT = -2
OUT_OF_LIMITS = -22

MOST_COMPONENTS = 4
LARGEST_RESPONSE = 999
MOST_PARTS = 99
MOST_BEST_PARTS = 10
LARGEST_PROPORTION = 99
MOST_COUNTED_PARTS = 20


def all_between(numbers, low, high):
    """Tell whether every number lies from low to high, both included."""
    return all([low <= number <= high for number in numbers])


def component_pairs(component_count):
    """List the pairs (i, j) of components with i < j in lexicographic order."""
    pairs = []
    for i in range(component_count):
        for j in range(i + 1, component_count):
            pairs.append((i, j))
    return pairs


def responses_within_limits(pure, binary):
    """Tell whether pure and binary are what the model can be made of."""
    if not 1 <= len(pure) <= MOST_COMPONENTS:
        return False
    if len(binary) != len(component_pairs(len(pure))):
        return False
    if not all_between(pure, -LARGEST_RESPONSE, LARGEST_RESPONSE):
        return False
    return all_between(binary, -LARGEST_RESPONSE, LARGEST_RESPONSE)


def mixture_within_limits(mixture, component_count):
    """Tell whether mixture gives parts to each of so many components."""
    if len(mixture) != component_count:
        return False
    return all_between(mixture, 0, MOST_PARTS) and sum(mixture) > 0


def lowest_terms(numerator, denominator):
    """Give [numerator, denominator] without common divisors, for a denominator above 0."""
    divisor = denominator
    rest = abs(numerator)
    while rest != 0:
        next_rest = divisor % rest
        divisor = rest
        rest = next_rest
    return [numerator // divisor, denominator // divisor]


def pair_interactions(pure, binary):
    """List the interaction of each pair, in the order of the pairs."""
    found = []
    for pair, pair_response in zip(component_pairs(len(pure)), binary):
        found.append(4 * pair_response - 2 * (pure[pair[0]] + pure[pair[1]]))
    return found


def scaled_response(pure, binary, mixture):
    """Give the predicted response times the square of the sum of all parts."""
    pure_sum = 0
    for parts, response in zip(mixture, pure):
        pure_sum = pure_sum + parts * response
    pair_sum = 0
    for pair, interaction in zip(component_pairs(len(pure)), pair_interactions(pure, binary)):
        pair_sum = pair_sum + interaction * mixture[pair[0]] * mixture[pair[1]]
    # A fraction is parts / sum, so all terms are whole over the square of the sum.
    return pure_sum * sum(mixture) + pair_sum


def predicted_response(pure, binary, mixture):
    """Give the predicted response of a mixture as [numerator, denominator]."""
    total = sum(mixture)
    return lowest_terms(scaled_response(pure, binary, mixture), total * total)


def mixtures_with_parts(component_count, parts):
    """List all mixtures whose parts add up to parts, in lexicographic order."""
    starts = [[]]
    # The last component takes what the others leave, so only they are chosen.
    for place in range(component_count - 1):
        longer = []
        for start in starts:
            for more in range(parts - sum(start) + 1):
                longer.append(start + [more])
        starts = longer
    return [start + [parts - sum(start)] for start in starts]


def best_of(mixtures, pure, binary):
    """Give the first mixture with the largest response, of mixtures with as many parts."""
    best = mixtures[0]
    largest = scaled_response(pure, binary, best)
    for mixture in mixtures:
        # With as many parts in all of them, the scaled responses are in the order of the responses.
        scaled = scaled_response(pure, binary, mixture)
        # Only a larger one takes the place, so the first one of a tie stays.
        if scaled > largest:
            best = mixture
            largest = scaled
    return best


def combined_parts(k, m, first, second):
    """Give whole parts whose fractions are those of the combination of two mixtures."""
    first_sum = sum(first)
    second_sum = sum(second)
    combined = []
    # Each mixture is multiplied by the sum of the other, so that fractions are combined, not parts.
    for first_parts, second_parts in zip(first, second):
        combined.append(k * first_parts * second_sum + m * second_parts * first_sum)
    return combined


def weighted_mean(k, m, first, second):
    """Give the mean of two rational numbers, weighted k to m, as [numerator, denominator]."""
    numerator = k * first[0] * second[1] + m * second[0] * first[1]
    return lowest_terms(numerator, (k + m) * first[1] * second[1])


def positive_partners(component, pure, binary):
    """List the components that have a positive interaction with this one, in increasing order."""
    found = []
    # In the order of the pairs, those with a smaller component come first, each in increasing order.
    for pair, interaction in zip(component_pairs(len(pure)), pair_interactions(pure, binary)):
        if component in pair and interaction > 0:
            found.append(pair[0] + pair[1] - component)
    return found


def binomial(whole, chosen):
    """Give the number of ways to choose so many of a whole, 0 <= chosen <= whole."""
    ways = 1
    for step in range(chosen):
        # What stands so far is a binomial coefficient after each step, so nothing is cut off.
        ways = ways * (whole - step) // (step + 1)
    return ways


def predict(pure, binary, mixture):
    """Answer 0 and the predicted response of the mixture, or the error code."""
    if not responses_within_limits(pure, binary):
        return [OUT_OF_LIMITS]
    if not mixture_within_limits(mixture, len(pure)):
        return [OUT_OF_LIMITS]
    return [0] + predicted_response(pure, binary, mixture)


def interactions(pure, binary):
    """Answer the number of pairs and the interaction of each, or the error code."""
    if not responses_within_limits(pure, binary):
        return [OUT_OF_LIMITS]
    found = pair_interactions(pure, binary)
    answer = [len(found)]
    for interaction in found:
        # Whole responses make every interaction whole, so it is over 1.
        answer.extend([interaction, 1])
    return answer


def best_mixture(parts, pure, binary):
    """Answer the number of components, the best mixture and its response, or the error code."""
    if not responses_within_limits(pure, binary):
        return [OUT_OF_LIMITS]
    if not 1 <= parts <= MOST_BEST_PARTS:
        return [OUT_OF_LIMITS]
    best = best_of(mixtures_with_parts(len(pure), parts), pure, binary)
    return [len(pure)] + best + predicted_response(pure, binary, best)


def predict_combination(k, m, pure, binary, first, second):
    """Answer 0, the response of the combination and the mean response, or the error code."""
    if not responses_within_limits(pure, binary):
        return [OUT_OF_LIMITS]
    if not all_between([k, m], 1, LARGEST_PROPORTION):
        return [OUT_OF_LIMITS]
    for mixture in (first, second):
        if not mixture_within_limits(mixture, len(pure)):
            return [OUT_OF_LIMITS]
    response = predicted_response(pure, binary, combined_parts(k, m, first, second))
    first_response = predicted_response(pure, binary, first)
    second_response = predicted_response(pure, binary, second)
    return [0] + response + weighted_mean(k, m, first_response, second_response)


def synergies(component, pure, binary):
    """Answer how many components interact positively with this one and which, or the error code."""
    if not responses_within_limits(pure, binary):
        return [OUT_OF_LIMITS]
    if not 0 <= component < len(pure):
        return [NO_SUCH_COMPONENT]
    found = positive_partners(component, pure, binary)
    return [len(found)] + found


def count_mixtures(components, parts):
    """Answer the number of mixtures of so many components and parts, or the error code."""
    if not 1 <= components <= MOST_COMPONENTS:
        return [OUT_OF_LIMITS]
    if not 0 <= parts <= MOST_COUNTED_PARTS:
        return [OUT_OF_LIMITS]
    return [binomial(parts + components - 1, components - 1)]
