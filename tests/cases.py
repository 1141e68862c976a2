"""What the tests of the operations share: lists of lots, and a plain model to compare with."""

import copy
from fractions import Fraction

EXAMPLE = [10, 100, 1, 2, 10, 50, 1, 1]

SIX = [
    10, 100, 1, 2,
    99, 999, 19, 20,
    0, 500, 3, 4,
    7, 0, 1, 1,
    1, 999, 20, 20,
    42, 365, 1, 20,
]

NO_LIST_OF_WHOLE_LOTS = [([5, 80, 1, 2] * 7)[:length] for length in range(1, 28) if length % 4 != 0 or length > 24]

LOTS_OUTSIDE_LIMITS = [
    [100, 80, 1, 2],
    [4294967295, 80, 1, 2],
    [5, 1000, 1, 2],
    [5, 4294967295, 1, 2],
    [5, 80, 0, 2],
    [5, 80, 0, 1],
    [5, 80, 0, 0],
    [5, 80, 1, 0],
    [5, 80, 2, 1],
    [5, 80, 20, 19],
    [5, 80, 1, 21],
    [5, 80, 20, 21],
    [5, 80, 21, 20],
    [5, 80, 21, 21],
    [5, 80, 1, 4294967295],
    [5, 80, 4294967295, 4294967295],
    # One bad lot refuses the list wherever it stands, also outside the set of mask 1.
    [5, 80, 1, 2, 100, 80, 1, 2],
    [5, 80, 1, 2, 5, 1000, 1, 2],
    [5, 80, 1, 2] * 5 + [5, 80, 3, 2],
]

# Sets without weight that hold no unknown lot.
WEIGHTLESS = [
    (0, []),
    (0, [5, 80, 1, 2]),
    (0, SIX),
    (1, [0, 80, 1, 2]),
    (3, [0, 80, 1, 2, 0, 999, 1, 1]),
    (4, SIX),
    (2, [5, 80, 1, 2, 0, 80, 1, 2]),
    (63, [0, 80, 1, 2] * 6),
]

UNKNOWN_LOTS = [
    (1, []),
    (2, []),
    (4294967295, []),
    (2, [5, 80, 1, 2]),
    (3, [5, 80, 1, 2]),
    (4, EXAMPLE),
    (5, EXAMPLE),
    (7, EXAMPLE),
    (64, SIX),
    (127, SIX),
    (4294967295, SIX),
    (2147483648, EXAMPLE),
    # Ahead of the missing weight: the known lots of these sets weigh nothing.
    (2, [0, 80, 1, 2]),
    (3, [0, 80, 1, 2]),
]


def model_mean(mask, month, lots):
    """The mean strength straight from its definition."""
    weight = 0
    total = Fraction(0)
    for index in range(len(lots) // 4):
        if mask & (1 << index):
            lot_weight, strength, num, den = lots[4 * index:4 * index + 4]
            weight += lot_weight
            total += lot_weight * strength * Fraction(num, den) ** month
    return total / weight


def mixed_lists():
    """Lists of 1 to 6 lots over edges and middling values, the same ones at each run."""
    weights = [0, 1, 7, 50, 98, 99]
    strengths = [0, 1, 2, 64, 500, 998, 999]
    fractions = [(1, 1), (1, 2), (2, 4), (1, 20), (19, 20), (20, 20), (7, 13), (18, 19), (3, 3)]
    lists = [EXAMPLE, SIX]
    step = 0
    for count in range(1, 7):
        for _ in range(8):
            lots = []
            for _ in range(count):
                step += 1
                num, den = fractions[step * 5 % 9]
                lots += [weights[(step * step + step // 6) % 6], strengths[(step * 3 + step // 7) % 7], num, den]
            lists.append(lots)
    return lists


def weighty_sets():
    """Each set with a weight above 0 of each of the mixed lists."""
    for lots in mixed_lists():
        for mask in range(1 << (len(lots) // 4)):
            if sum(lots[4 * i] for i in range(len(lots) // 4) if mask & (1 << i)) > 0:
                yield mask, lots


def answer_of(test, function, first, second, lots):
    """Call twice; check what holds for every call, and give the answer."""
    handed_in = copy.copy(lots)
    answer = function(first, second, handed_in)
    test.assertEqual(handed_in, lots, "the list handed in is changed")
    test.assertIs(type(answer), list)
    for number in answer:
        test.assertIs(type(number), int)
    kept = list(answer)
    function(0, 1, [3, 7, 1, 5])
    again = function(first, second, handed_in)
    test.assertEqual(again, kept, "the second call answers otherwise")
    test.assertIsNot(again, answer)
    return answer
