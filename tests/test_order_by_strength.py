"""order_by_strength: all lots by decreasing strength in a month."""

import unittest

from cases import (
    EXAMPLE, LOTS_OUTSIDE_LIMITS, NO_LIST_OF_WHOLE_LOTS, SIX, AnswerChecks, LotsRefusals, drawn_lists, mixed_lists,
    model_strength,
)
from fadinglots.mixtures import order_by_strength


def model_answer(month, lots):
    """The answer by counting for each lot those that come ahead of it."""
    count = len(lots) // 4
    strengths = [model_strength(index, month, lots) for index in range(count)]
    order = [None] * count
    for index in range(count):
        stronger = sum(strength > strengths[index] for strength in strengths)
        equal_and_lower = sum(strength == strengths[index] for strength in strengths[:index])
        order[stronger + equal_and_lower] = index
    return [count] + order


class OrderByStrengthCase(AnswerChecks, unittest.TestCase):
    function = staticmethod(order_by_strength)


class OrdinaryInputs(OrderByStrengthCase):
    def test_lots_of_the_example(self):
        self.check([2, 0, 1], 0, EXAMPLE)
        self.check([2, 0, 1], 1, EXAMPLE)
        self.check([2, 1, 0], 2, EXAMPLE)

    def test_one_lot(self):
        for month in (0, 1, 17, 40):
            self.check([1, 0], month, [7, 90, 2, 3])

    def test_rising_and_falling_strengths(self):
        rising = []
        falling = []
        for step in range(6):
            rising += [5, 100 + step, 1, 1]
            falling += [5, 100 - step, 1, 1]
        self.check([6, 5, 4, 3, 2, 1, 0], 3, rising)
        self.check([6, 0, 1, 2, 3, 4, 5], 3, falling)

    def test_several_lots(self):
        lots = [3, 100, 1, 2, 5, 60, 3, 4, 2, 30, 1, 1]
        self.check([3, 0, 1, 2], 0, lots)
        self.check([3, 0, 1, 2], 1, lots)
        self.check([3, 1, 2, 0], 2, lots)
        self.check([3, 2, 1, 0], 3, lots)

    def test_six_lots(self):
        self.check([6, 1, 4, 2, 5, 0, 3], 0, SIX)
        self.check([6, 4, 1, 2, 0, 5, 3], 1, SIX)
        self.check([6, 4, 1, 2, 0, 5, 3], 40, SIX)

    def test_as_the_definition_says(self):
        for lots in mixed_lists():
            for month in range(41):
                self.check(model_answer(month, lots), month, lots)

    def test_as_the_definition_says_of_drawn_lots(self):
        for lots in drawn_lists(61, 150):
            for month in (0, 1, 2, 5, 40):
                self.check(model_answer(month, lots), month, lots)


class Edges(OrderByStrengthCase):
    def test_no_lots(self):
        for month in (0, 1, 39, 40):
            self.check([0], month, [])

    def test_lower_index_first_in_a_tie(self):
        self.check([2, 0, 1], 1, EXAMPLE)
        self.check([2, 0, 1], 1, EXAMPLE[4:] + EXAMPLE[:4])
        self.check([3, 1, 0, 2], 0, [5, 50, 1, 1, 5, 80, 1, 1, 5, 50, 1, 1])
        self.check([3, 0, 2, 1], 0, [5, 80, 1, 1, 5, 50, 1, 1, 5, 80, 1, 1])
        self.check([6, 1, 3, 5, 0, 2, 4], 0, [5, 50, 1, 1, 5, 80, 1, 1] * 3)

    def test_all_equal(self):
        for month in (0, 1, 40):
            self.check([6, 0, 1, 2, 3, 4, 5], month, [99, 999, 20, 20] * 6)
            self.check([6, 0, 1, 2, 3, 4, 5], month, [1, 1, 1, 20] * 6)

    def test_same_fraction_in_other_terms_ties_in_all_months(self):
        lots = [1, 80, 10, 20, 1, 80, 1, 2, 1, 80, 9, 18, 1, 80, 2, 4]
        for month in range(41):
            self.check([4, 0, 1, 2, 3], month, lots)

    def test_tie_of_other_strengths_and_fractions(self):
        tenth = [1, 100, 1, 10]
        twentieth = [1, 400, 1, 20]
        self.check([2, 1, 0], 1, tenth + twentieth)
        self.check([2, 0, 1], 2, tenth + twentieth)
        self.check([2, 0, 1], 3, tenth + twentieth)
        self.check([2, 0, 1], 1, twentieth + tenth)
        self.check([2, 0, 1], 2, twentieth + tenth)
        self.check([2, 1, 0], 3, twentieth + tenth)

    def test_tie_in_the_month_of_changing_places(self):
        third = [1, 729, 1, 3]
        half = [1, 64, 1, 2]
        for month in (0, 1, 2, 3, 4, 5):
            self.check([2, 1, 0], month, half + third)
        self.check([2, 0, 1], 6, half + third)
        self.check([2, 0, 1], 6, third + half)
        for month in (7, 8, 40):
            self.check([2, 0, 1], month, half + third)

    def test_places_change_from_month_to_month(self):
        lots = [1, 900, 1, 10, 1, 300, 1, 2, 1, 100, 1, 1]
        self.check([3, 0, 1, 2], 0, lots)
        self.check([3, 1, 2, 0], 1, lots)
        self.check([3, 2, 1, 0], 2, lots)
        self.check([3, 2, 1, 0], 40, lots)

    def test_places_change_late(self):
        lots = [1, 820, 19, 20, 1, 110, 1, 1]
        for month in range(40):
            self.check([2, 0, 1], month, lots)
        self.check([2, 1, 0], 40, lots)

    def test_hardly_stronger_after_40_months(self):
        self.check([2, 1, 0], 40, [1, 1, 1, 20, 1, 2, 1, 20])
        self.check([2, 1, 0], 40, [1, 998, 1, 20, 1, 999, 1, 20])
        self.check([2, 1, 0], 40, [1, 999, 1, 20, 1, 1, 1, 16])

    def test_weights_do_not_count(self):
        self.check([2, 1, 0], 0, [99, 50, 1, 1, 1, 51, 1, 1])
        self.check([2, 0, 1], 0, [1, 51, 1, 1, 99, 50, 1, 1])
        self.check([2, 0, 1], 0, [1, 50, 1, 1, 99, 50, 1, 1])

    def test_weight_0(self):
        self.check([1, 0], 0, [0, 80, 1, 2])
        self.check([2, 1, 0], 0, [5, 50, 1, 1, 0, 80, 1, 2])
        self.check([2, 0, 1], 2, [5, 50, 1, 1, 0, 80, 1, 2])
        self.check([6, 5, 4, 3, 2, 1, 0], 0, [n for step in range(6) for n in (0, step, 1, 2)])

    def test_strength_0(self):
        self.check([1, 0], 40, [5, 0, 1, 20])
        self.check([3, 1, 0, 2], 40, [5, 0, 1, 1, 5, 1, 1, 20, 5, 0, 1, 2])
        self.check([2, 0, 1], 3, [5, 0, 1, 20, 5, 0, 1, 1])
        self.check([2, 0, 1], 3, [5, 0, 1, 1, 5, 0, 1, 20])

    def test_month_0_is_before_any_loss(self):
        self.check([2, 0, 1], 0, [1, 2, 1, 20, 1, 1, 1, 1])
        self.check([2, 1, 0], 1, [1, 2, 1, 20, 1, 1, 1, 1])


class WrongInputs(LotsRefusals, unittest.TestCase):
    function = staticmethod(order_by_strength)
    leading = ()
    allowed = (0, 1, 40)
    outside_range = (41, 42, 999, 4294967295)

    def test_month_outside_range(self):
        for month in self.outside_range:
            self.check([-22], month, [])
            self.check([-22], month, [5, 80, 1, 2])
            self.check([-22], month, [0, 0, 1, 1])
            self.check([-22], month, SIX)

    def test_lots_are_checked_in_every_month(self):
        for lots in NO_LIST_OF_WHOLE_LOTS + LOTS_OUTSIDE_LIMITS:
            for month in self.allowed:
                self.check([-22], month, lots)

    def test_several_errors_at_once(self):
        self.check([-22], 41, [5, 80, 1])
        self.check([-22], 4294967295, [5, 80, 2, 1])
        self.check([-22], 4294967295, [4294967295] * 27)
        self.check([-22], 0, [0] * 24)


if __name__ == "__main__":
    unittest.main()
