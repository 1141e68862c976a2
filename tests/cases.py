"""What the tests of the operations share: lists of lots, and a plain model to compare with."""

from fractions import Fraction

EXAMPLE = [10, 100, 1, 2, 10, 50, 1, 1]

SIX = [
    10, 100, 1, 2,
    99, 999, 19, 20,
    0, 500, 3, 4,
    7, 0, 1, 1,
    1, 999, 20, 20,
    42, 365, 1, 20,
]

# In month 3 the mean strength of all six is below 232 by less than 10 ** -18.
HARDLY_BELOW_232 = [
    13, 52, 16, 17,
    56, 210, 18, 19,
    6, 81, 12, 13,
    27, 724, 10, 11,
    12, 137, 6, 7,
    1, 13, 1, 1,
]

NO_LIST_OF_WHOLE_LOTS = [([5, 80, 1, 2] * 7)[:length] for length in range(1, 28) if length % 4 != 0 or length > 24]

LOTS_OUTSIDE_LIMITS = [
    [100, 80, 1, 2],
    [4294967295, 80, 1, 2],
    [5, 1000, 1, 2],
    [5, 4294967295, 1, 2],
    [5, 80, 0, 2],
    [5, 80, 0, 1],
    [5, 80, 0, 0],
    [5, 80, 1, 0],
    [5, 80, 2, 1],
    [5, 80, 20, 19],
    [5, 80, 1, 21],
    [5, 80, 20, 21],
    [5, 80, 21, 20],
    [5, 80, 21, 21],
    [5, 80, 1, 4294967295],
    [5, 80, 4294967295, 4294967295],
    # One bad lot refuses the list wherever it stands, also outside the set of mask 1.
    [5, 80, 1, 2, 100, 80, 1, 2],
    [5, 80, 1, 2, 5, 1000, 1, 2],
    [5, 80, 1, 2] * 5 + [5, 80, 3, 2],
]

# Sets without weight that hold no unknown lot.
WEIGHTLESS = [
    (0, []),
    (0, [5, 80, 1, 2]),
    (0, SIX),
    (1, [0, 80, 1, 2]),
    (3, [0, 80, 1, 2, 0, 999, 1, 1]),
    (4, SIX),
    (2, [5, 80, 1, 2, 0, 80, 1, 2]),
    (63, [0, 80, 1, 2] * 6),
]

UNKNOWN_LOTS = [
    (1, []),
    (2, []),
    (4294967295, []),
    (2, [5, 80, 1, 2]),
    (3, [5, 80, 1, 2]),
    (4, EXAMPLE),
    (5, EXAMPLE),
    (7, EXAMPLE),
    (64, SIX),
    (127, SIX),
    (4294967295, SIX),
    (2147483648, EXAMPLE),
    # Ahead of the missing weight: the known lots of these sets weigh nothing.
    (2, [0, 80, 1, 2]),
    (3, [0, 80, 1, 2]),
]


def model_strength(index, month, lots):
    """The strength of a lot straight from its definition."""
    _, strength, num, den = lots[4 * index:4 * index + 4]
    return strength * Fraction(num, den) ** month


def model_mean(mask, month, lots):
    """The mean strength straight from its definition."""
    weight = 0
    total = Fraction(0)
    for index in range(len(lots) // 4):
        if mask & (1 << index):
            weight += lots[4 * index]
            total += lots[4 * index] * model_strength(index, month, lots)
    return total / weight


def model_weight(mask, lots):
    """The total weight of the set."""
    return sum(lots[4 * index] for index in range(len(lots) // 4) if mask & (1 << index))


def mixed_lists():
    """Lists of 1 to 6 lots over edges and middling values, the same ones at each run."""
    weights = [0, 1, 7, 50, 98, 99]
    strengths = [0, 1, 2, 64, 500, 998, 999]
    fractions = [(1, 1), (1, 2), (2, 4), (1, 20), (19, 20), (20, 20), (7, 13), (18, 19), (3, 3)]
    lists = [EXAMPLE, SIX]
    step = 0
    for count in range(1, 7):
        for _ in range(8):
            lots = []
            for _ in range(count):
                step += 1
                num, den = fractions[step * 5 % 9]
                lots += [weights[(step * step + step // 6) % 6], strengths[(step * 3 + step // 7) % 7], num, den]
            lists.append(lots)
    return lists


def weighty_sets():
    """Each set with a weight above 0 of each of the mixed lists."""
    for lots in mixed_lists():
        for mask in range(1 << (len(lots) // 4)):
            if model_weight(mask, lots) > 0:
                yield mask, lots


class Draw:
    """Draws numbers: a row that looks like chance and is the same at each run."""

    def __init__(self, start):
        self.state = start

    def number(self, least, most):
        """A number from least to most."""
        self.state = (self.state * 6364136223846793005 + 1442695040888963407) % (1 << 64)
        return least + (self.state >> 33) % (most - least + 1)

    def edge_or_number(self, least, most):
        """One of the two limits now and then, else a number between them."""
        turn = self.number(0, 9)
        if turn < 2:
            return (least, most)[turn]
        return self.number(least, most)

    def lots(self, count):
        """A list of so many lots within their limits."""
        lots = []
        for _ in range(count):
            den = self.edge_or_number(1, 20)
            lots += [self.edge_or_number(0, 99), self.edge_or_number(0, 999), self.edge_or_number(1, den), den]
        return lots


def drawn_lists(start, times):
    """So many drawn lists of 0 to 6 lots."""
    draw = Draw(start)
    for _ in range(times):
        yield draw.lots(draw.edge_or_number(0, 6))


def drawn_sets(start, times):
    """A drawn set with a weight above 0 of each of so many drawn lists."""
    draw = Draw(start)
    found = 0
    while found < times:
        lots = draw.lots(draw.number(1, 6))
        mask = draw.edge_or_number(1, (1 << (len(lots) // 4)) - 1)
        if model_weight(mask, lots) > 0:
            found += 1
            yield mask, lots


class Untouchable(list):
    """A list that can't be changed, not even for a while."""

    def refuse(self, *arguments, **named):
        raise AssertionError("the list handed in is changed")

    append = extend = insert = pop = remove = clear = sort = reverse = refuse
    __setitem__ = __delitem__ = __iadd__ = __imul__ = refuse


class AnswerChecks:
    """For the test cases of one operation, called as function(*numbers, lots)."""

    def check(self, expected, *arguments):
        with self.subTest(arguments=arguments):
            self.assertEqual(self.answer_of(*arguments), expected)

    def answer_of(self, *arguments):
        """Call three times; check what holds for every call, and give the answer."""
        *numbers, lots = arguments
        handed_in = list(lots)
        answer = self.function(*numbers, handed_in)
        self.assertEqual(handed_in, lots, "the list handed in is changed")
        self.check_form(answer)
        kept = list(answer)
        self.function(*[1 for _ in numbers], [3, 7, 1, 5])
        self.assertEqual(self.function(*numbers, handed_in), kept, "the second call answers otherwise")
        self.assertEqual(answer, kept, "the second call changes the first answer")
        self.assertEqual(self.function(*numbers, Untouchable(lots)), kept)
        return answer

    def check_form(self, answer):
        """A list of whole numbers: an error code alone, or no number below 0."""
        self.assertIs(type(answer), list)
        for number in answer:
            self.assertIs(type(number), int)
        if answer not in ([-6], [-22], [-33]):
            self.assertGreaterEqual(min(answer), 0)


class LotsRefusals(AnswerChecks):
    """The errors of every operation on numbers, the last one allowed or outside its range, and lots."""

    # What stands ahead of that number.
    leading = (1,)

    def test_no_list_of_whole_lots(self):
        lengths = [len(lots) for lots in NO_LIST_OF_WHOLE_LOTS]
        for length in (1, 2, 3, 5, 25, 26, 27):
            self.assertIn(length, lengths)
        for lots in NO_LIST_OF_WHOLE_LOTS:
            self.check([-22], *self.leading, self.allowed[0], lots)

    def test_lots_outside_limits(self):
        for lots in LOTS_OUTSIDE_LIMITS:
            self.check([-22], *self.leading, self.allowed[0], lots)

    def test_number_outside_range(self):
        for number in self.outside_range:
            self.check([-22], *self.leading, number, EXAMPLE)


class SetRefusals(LotsRefusals):
    """The errors of every operation on a mask, a number (allowed or outside its range) and lots."""

    def test_unknown_lots(self):
        for mask, lots in UNKNOWN_LOTS:
            self.check([-22], mask, self.allowed[0], lots)

    def test_no_weight(self):
        for mask, lots in WEIGHTLESS:
            for number in self.allowed:
                self.check([-6], mask, number, lots)

    def test_limits_come_ahead_of_the_weight(self):
        for lots in NO_LIST_OF_WHOLE_LOTS + LOTS_OUTSIDE_LIMITS:
            self.check([-22], 0, self.allowed[0], lots)
        for mask, lots in WEIGHTLESS:
            self.check([-22], mask, self.outside_range[0], lots)
        self.check([-22], 1, self.allowed[0], [0, 1000, 1, 2])
        self.check([-22], 1, self.allowed[0], [0, 80, 0, 2])

    def test_several_errors_at_once(self):
        self.check([-22], 4294967295, 4294967295, [4294967295] * 27)
        self.check([-22], 0, 4294967295, [0] * 27)
        self.check([-22], 2, self.outside_range[0], [0, 80, 1, 2])
        self.check([-22], 0, self.outside_range[0], [])
