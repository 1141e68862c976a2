"""last_month_at: the last month in which a set's mean strength is at least the threshold."""

import unittest

from cases import EXAMPLE, HARDLY_BELOW_232, SIX, AnswerChecks, SetRefusals, model_mean, weighty_sets
from fadinglots.mixtures import last_month_at


def model_answer(mask, threshold, lots):
    """The answer by going through all months."""
    months = [month for month in range(41) if model_mean(mask, month, lots) >= threshold]
    return [months[-1]] if months else [-33]


class LastMonthAtCase(AnswerChecks, unittest.TestCase):
    function = staticmethod(last_month_at)


class OrdinaryInputs(LastMonthAtCase):
    def test_example_of_the_document(self):
        self.check([1], 3, 40, EXAMPLE)

    def test_one_lot(self):
        lots = [7, 90, 2, 3]
        self.check([0], 1, 61, lots)
        self.check([1], 1, 41, lots)
        self.check([2], 1, 27, lots)
        self.check([3], 1, 26, lots)
        self.check([11], 1, 1, lots)

    def test_several_lots(self):
        lots = [3, 100, 1, 2, 5, 60, 3, 4, 2, 10, 1, 1]
        self.check([0], 7, 62, lots)
        self.check([1], 7, 39, lots)
        self.check([2], 7, 26, lots)
        self.check([1], 7, 27, lots)

    def test_set_of_some_lots(self):
        lots = [3, 100, 1, 2, 5, 60, 3, 4, 2, 10, 1, 1]
        self.check([1], 5, 34, lots)
        self.check([0], 5, 35, lots)
        self.check([1], 2, 34, lots)
        self.check([2], 2, 33, lots)
        self.check([40], 4, 10, lots)

    def test_as_the_definition_says(self):
        for mask, lots in list(weighty_sets())[::3]:
            for threshold in (0, 1, 3, 50, 400, 998, 999):
                self.check(model_answer(mask, threshold, lots), mask, threshold, lots)


class Edges(LastMonthAtCase):
    def test_just_the_threshold_counts(self):
        self.check([0], 1, 100, [10, 100, 1, 2])
        self.check([1], 1, 50, [10, 100, 1, 2])
        self.check([2], 1, 25, [10, 100, 1, 2])
        self.check([0], 3, 75, EXAMPLE)
        self.check([1], 3, 50, EXAMPLE)
        self.check([0], 3, 51, EXAMPLE)

    def test_a_fraction_below_the_threshold_does_not_count(self):
        self.check([1], 3, 38, EXAMPLE)
        self.check([2], 3, 37, EXAMPLE)
        self.check([-33], 3, 9, [1, 8, 1, 1, 1, 9, 1, 1])
        self.check([2], 63, 232, HARDLY_BELOW_232)

    def test_threshold_0(self):
        self.check([40], 1, 0, [1, 999, 1, 20])
        self.check([40], 3, 0, EXAMPLE)
        self.check([40], 63, 0, SIX)

    def test_threshold_999(self):
        self.check([40], 1, 999, [1, 999, 1, 1])
        self.check([0], 1, 999, [1, 999, 19, 20])
        self.check([-33], 1, 999, [1, 998, 1, 1])
        self.check([-33], 3, 999, [99, 999, 1, 1, 1, 998, 1, 1])

    def test_set_that_keeps_its_strength(self):
        for den in (1, 2, 19, 20):
            self.check([40], 1, 80, [5, 80, den, den])
            self.check([-33], 1, 81, [5, 80, den, den])
        self.check([40], 3, 50, [10, 60, 3, 3, 10, 40, 1, 1])

    def test_set_that_never_falls_below(self):
        self.check([40], 3, 25, EXAMPLE)

    def test_set_that_falls_towards_a_lower_strength(self):
        self.check([4], 3, 26, [10, 20, 1, 2, 10, 51, 1, 1])

    def test_below_right_after_month_0(self):
        self.check([0], 1, 100, [1, 100, 19, 20])
        self.check([0], 3, 75, [10, 100, 19, 20, 10, 50, 1, 1])

    def test_the_last_months(self):
        lots = [1, 999, 19, 20]
        self.check([38], 1, 136, lots)
        self.check([39], 1, 135, lots)
        self.check([39], 1, 129, lots)
        self.check([40], 1, 128, lots)

    def test_no_such_month(self):
        self.check([-33], 1, 101, [1, 100, 1, 2])
        self.check([-33], 3, 76, EXAMPLE)
        self.check([-33], 1, 51, [10, 50, 1, 1])

    def test_strength_0(self):
        self.check([40], 1, 0, [3, 0, 1, 2])
        self.check([-33], 1, 1, [3, 0, 1, 2])
        self.check([-33], 3, 999, [3, 0, 1, 2, 4, 0, 1, 1])
        self.check([1], 3, 5, [1, 0, 1, 2, 1, 20, 1, 2])

    def test_weight_0_beside_other_weights(self):
        self.check([2], 3, 25, [0, 999, 1, 1, 4, 100, 1, 2])
        self.check([-33], 3, 101, [0, 999, 1, 1, 4, 100, 1, 2])

    def test_six_lots(self):
        lots = []
        for strength in (100, 200, 300, 400, 500, 900):
            lots += [3, strength, 1, 2]
        self.check([-33], 63, 401, lots)
        self.check([0], 63, 201, lots)
        self.check([1], 63, 200, lots)
        self.check([3], 63, 50, lots)
        self.check([40], 63, 999, [99, 999, 20, 20] * 6)
        for threshold in (0, 6, 7, 100, 605, 606, 731, 732):
            self.check(model_answer(63, threshold, SIX), 63, threshold, SIX)


class Threshold(unittest.TestCase):
    def test_at_least_the_threshold_up_to_the_answer_and_not_after(self):
        for mask, lots in list(weighty_sets())[::5]:
            for threshold in (1, 20, 333):
                month = last_month_at(mask, threshold, lots)[0]
                for earlier in range(month + 1):
                    self.assertGreaterEqual(model_mean(mask, earlier, lots), threshold)
                for later in range(max(month, -1) + 1, 41):
                    self.assertLess(model_mean(mask, later, lots), threshold)


class WrongInputs(SetRefusals, unittest.TestCase):
    function = staticmethod(last_month_at)
    allowed = (0, 1, 999)
    outside_range = (1000, 1001, 4294967295)

    def test_weight_comes_ahead_of_the_month(self):
        self.check([-33], 2, 81, [0, 80, 1, 2, 5, 80, 1, 2])
        self.check([-6], 1, 81, [0, 80, 1, 2, 5, 80, 1, 2])
        self.check([-6], 0, 81, [0, 80, 1, 2, 5, 80, 1, 2])

    def test_limits_come_ahead_of_the_month(self):
        self.check([-22], 3, 999, [5, 80, 1, 2])
        self.check([-22], 1, 999, [5, 80, 1, 21])
        self.check([-22], 1, 999, [5, 80, 1])


if __name__ == "__main__":
    unittest.main()
