"""What the tests of several functions have in common."""

# The length of binary that belongs to each length of pure within the limits.
PAIR_COUNTS = {1: 0, 2: 1, 3: 3, 4: 6}

# What lies just outside and far outside the limits of pure and binary.
WRONG_RESPONSES = (-1000, 1000, -2147483648, 2147483647)


class UnchangingList(list):
    """A list that can be read as ever, and fails when something would change it."""

    def refuse_change(self, *args, **kwargs):
        raise AssertionError("an argument was changed")

    __setitem__ = __delitem__ = __iadd__ = __imul__ = refuse_change
    append = extend = insert = pop = remove = clear = sort = reverse = refuse_change


def with_element(numbers, place, number):
    """A copy of a list with another number at one place."""
    changed = list(numbers)
    changed[place] = number
    return changed


def wrong_pure_lengths():
    """Pairs (pure, binary) in which pure is empty or too long."""
    found = []
    for pure_length in (0, 5, 6):
        for binary_length in range(9):
            found.append(([1] * pure_length, [2] * binary_length))
    return found


def wrong_binary_lengths():
    """Pairs (pure, binary) in which only the length of binary is wrong."""
    found = []
    for pure_length, pair_count in PAIR_COUNTS.items():
        for binary_length in range(9):
            if binary_length != pair_count:
                found.append(([1] * pure_length, [2] * binary_length))
    return found


def wrong_elements():
    """Pairs (pure, binary) in which only one element is outside its limits."""
    found = []
    for pure_length, pair_count in PAIR_COUNTS.items():
        pure = [1] * pure_length
        binary = [2] * pair_count
        for number in WRONG_RESPONSES:
            for place in range(pure_length):
                found.append((with_element(pure, place, number), binary))
            for place in range(pair_count):
                found.append((pure, with_element(binary, place, number)))
    return found


def several_wrong_responses():
    """Pairs (pure, binary) in which several things are wrong at once."""
    return [
        ([], [1000]),
        ([1000, -1000], [1000]),
        ([1000, -1000], []),
        ([2147483647] * 4, [-2147483648] * 6),
        ([1000, 1, 1], [1, 1, 1, -1000]),
        ([-2147483648] * 6, [2147483647] * 8),
        ([1000] * 5, [1000] * 8),
        ([1000], [1]),
        # Two wrong elements that cancel in a sum.
        ([1000, -1000], [0]),
        ([0, 0, 0], [1000, 0, -1000]),
    ]


def wrong_responses():
    """All the pairs (pure, binary) that are to be refused."""
    return (
        wrong_pure_lengths()
        + wrong_binary_lengths()
        + wrong_elements()
        + several_wrong_responses()
    )
