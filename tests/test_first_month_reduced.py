"""first_month_reduced: the first month in which factor times a set's mean strength is at most that in month 0."""

import unittest

from cases import (
    EXAMPLE, LOTS_OUTSIDE_LIMITS, NO_LIST_OF_WHOLE_LOTS, SIX, UNKNOWN_LOTS, WEIGHTLESS, AnswerChecks, SetRefusals,
    model_mean, weighty_sets,
)
from fadinglots.mixtures import first_month_reduced


def model_answer(mask, factor, lots):
    """The answer by going through all months."""
    start = model_mean(mask, 0, lots)
    months = [month for month in range(41) if factor * model_mean(mask, month, lots) <= start]
    return [months[0]] if months else [-33]


class FirstMonthReducedCase(AnswerChecks, unittest.TestCase):
    function = staticmethod(first_month_reduced)


class OrdinaryInputs(FirstMonthReducedCase):
    def test_lots_of_the_example(self):
        self.check([0], 3, 1, EXAMPLE)
        self.check([2], 3, 2, EXAMPLE)
        self.check([1], 1, 2, EXAMPLE)

    def test_one_lot(self):
        lots = [7, 90, 2, 3]
        self.check([2], 1, 2, lots)
        self.check([3], 1, 3, lots)
        self.check([4], 1, 5, lots)
        self.check([5], 1, 6, lots)
        self.check([12], 1, 99, lots)

    def test_several_lots(self):
        lots = [3, 100, 1, 2, 5, 60, 3, 4, 2, 10, 1, 1]
        self.check([2], 7, 2, lots)
        self.check([3], 7, 3, lots)
        self.check([4], 7, 4, lots)
        self.check([22], 7, 30, lots)
        self.check([-33], 7, 31, lots)

    def test_set_of_some_lots(self):
        lots = [3, 100, 1, 2, 5, 60, 3, 4, 2, 10, 1, 1]
        self.check([2], 1, 3, lots)
        self.check([4], 2, 3, lots)
        self.check([3], 3, 3, lots)
        self.check([-33], 4, 3, lots)
        self.check([2], 5, 3, lots)

    def test_weights_count(self):
        self.check([1], 3, 19, [99, 400, 1, 20, 1, 1, 1, 1])
        self.check([-33], 3, 2, [1, 1, 1, 20, 99, 400, 1, 1])

    def test_as_the_definition_says(self):
        for mask, lots in list(weighty_sets())[::2]:
            for factor in (1, 2, 3, 10, 60, 98, 99):
                self.check(model_answer(mask, factor, lots), mask, factor, lots)


class Edges(FirstMonthReducedCase):
    def test_factor_1_is_month_0(self):
        for mask in (1, 2, 3):
            self.check([0], mask, 1, EXAMPLE)
        self.check([0], 1, 1, [1, 1, 1, 20])
        self.check([0], 1, 1, [99, 999, 20, 20])
        self.check([0], 63, 1, SIX)

    def test_factor_2_is_never_month_0_with_strength(self):
        self.check([1], 1, 2, [1, 1, 1, 20])
        self.check([1], 63, 2, [99, 999, 1, 20] * 6)

    def test_factor_99(self):
        self.check([2], 1, 99, [1, 1, 1, 20])
        self.check([7], 1, 99, [1, 1, 1, 2])
        self.check([2], 63, 99, [99, 999, 1, 20] * 6)

    def test_just_the_month_0_strength_counts(self):
        self.check([1], 1, 2, [10, 100, 1, 2])
        self.check([2], 1, 4, [10, 100, 1, 2])
        self.check([6], 1, 64, [10, 100, 1, 2])
        self.check([1], 1, 20, [3, 7, 1, 20])
        self.check([2], 3, 2, EXAMPLE)

    def test_a_fraction_above_does_not_count(self):
        self.check([2], 1, 3, [10, 100, 1, 2])
        self.check([3], 1, 5, [10, 100, 1, 2])
        self.check([7], 1, 65, [10, 100, 1, 2])
        self.check([2], 1, 21, [3, 7, 1, 20])

    def test_hardly_above_in_all_months(self):
        # The mean strengths fall towards the bound and never reach it: in month 40 some 20 ** -40 or 2 ** -40 is left.
        self.check([-33], 3, 2, [1, 1, 1, 1, 1, 1, 1, 20])
        self.check([-33], 3, 99, [1, 1, 1, 1, 98, 1, 1, 20])
        self.check([-33], 3, 3, EXAMPLE)

    def test_constant_part_just_small_enough(self):
        self.check([4], 3, 99, [1, 1, 1, 1, 99, 1, 1, 20])
        self.check([2], 3, 98, [1, 1, 1, 1, 99, 4, 1, 20])

    def test_no_such_month(self):
        for factor in (2, 3, 99):
            self.check([-33], 2, factor, EXAMPLE)
            self.check([-33], 1, factor, [5, 80, 20, 20])
            self.check([-33], 63, factor, [99, 999, 1, 1] * 6)

    def test_the_last_months(self):
        lots = [13, 999, 9, 10]
        self.check([39], 1, 60, lots)
        self.check([40], 1, 61, lots)
        self.check([40], 1, 67, lots)
        self.check([-33], 1, 68, lots)
        self.check([38], 1, 7, [1, 1, 19, 20])
        self.check([-33], 1, 8, [1, 1, 19, 20])

    def test_strength_0_is_month_0(self):
        for factor in (1, 2, 99):
            self.check([0], 1, factor, [3, 0, 1, 2])
            self.check([0], 3, factor, [3, 0, 1, 2, 4, 0, 1, 1])
            self.check([0], 63, factor, [99, 0, 20, 20] * 6)
            self.check([0], 3, factor, [0, 999, 1, 1, 3, 0, 1, 2])

    def test_strength_0_beside_other_strengths(self):
        self.check([1], 3, 2, [9, 0, 1, 1, 1, 20, 1, 2])
        self.check([2], 3, 3, [1, 20, 1, 2, 9, 0, 1, 1])
        self.check([0], 1, 99, [9, 0, 1, 1, 1, 20, 1, 2])

    def test_weight_0_beside_other_weights(self):
        self.check([2], 3, 4, [0, 999, 1, 1, 4, 100, 1, 2])
        self.check([2], 3, 4, [4, 100, 1, 2, 0, 999, 1, 1])
        self.check([-33], 3, 2, [0, 999, 1, 20, 4, 100, 1, 1])

    def test_num_equal_to_den(self):
        for den in (1, 2, 19, 20):
            self.check([0], 1, 1, [5, 80, den, den])
            self.check([-33], 1, 2, [5, 80, den, den])

    def test_six_lots(self):
        lots = []
        for strength in (100, 200, 300, 400, 500, 900):
            lots += [3, strength, 1, 2]
        self.check([1], 63, 2, lots)
        self.check([4], 63, 16, lots)
        self.check([5], 63, 17, lots)
        for mask in (1, 2, 18, 51, 63):
            for factor in (2, 3, 7, 8, 99):
                self.check(model_answer(mask, factor, SIX), mask, factor, SIX)


class WrongInputs(SetRefusals, unittest.TestCase):
    function = staticmethod(first_month_reduced)
    allowed = (1, 2, 99)
    outside_range = (100, 0, 101, 999, 4294967295)

    def test_factor_0_and_100(self):
        for factor in (0, 100):
            for mask in (1, 2, 3):
                self.check([-22], mask, factor, EXAMPLE)
            self.check([-22], 1, factor, [3, 0, 1, 2])
            self.check([-22], 63, factor, SIX)

    def test_factor_0_and_100_come_ahead_of_the_weight(self):
        for mask, lots in WEIGHTLESS:
            for factor in (0, 100):
                self.check([-22], mask, factor, lots)

    def test_limits_come_ahead_of_the_month(self):
        for lots in NO_LIST_OF_WHOLE_LOTS + LOTS_OUTSIDE_LIMITS:
            self.check([-22], 1, 99, lots)
        for mask, lots in UNKNOWN_LOTS:
            self.check([-22], mask, 99, lots)
        self.check([-22], 1, 100, [5, 80, 1, 1])
        self.check([-22], 3, 2, [5, 80, 1, 1])

    def test_weight_comes_ahead_of_the_month(self):
        lots = [0, 80, 1, 1, 5, 80, 1, 1]
        for factor in (2, 99):
            self.check([-33], 2, factor, lots)
            self.check([-33], 3, factor, lots)
            self.check([-6], 1, factor, lots)
            self.check([-6], 0, factor, lots)
        self.check([-6], 1, 1, lots)
        self.check([-6], 0, 1, lots)


if __name__ == "__main__":
    unittest.main()
