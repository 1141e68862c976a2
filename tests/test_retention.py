"""retention: a set's mean strength a month later, divided by that in the month."""

import unittest
from fractions import Fraction
from math import gcd

from cases import EXAMPLE, SIX, AnswerChecks, SetRefusals, model_mean, weighty_sets
from fadinglots.mixtures import retention


def model_answer(mask, month, lots):
    """The answer straight from the definition."""
    before = model_mean(mask, month, lots)
    if before == 0:
        return [-33]
    kept = model_mean(mask, month + 1, lots) / before
    return [0, kept.numerator, kept.denominator]


class RetentionCase(AnswerChecks, unittest.TestCase):
    function = staticmethod(retention)


class OrdinaryInputs(RetentionCase):
    def test_example_of_the_document(self):
        self.check([0, 2, 3], 3, 0, EXAMPLE)

    def test_one_lot(self):
        for month in (0, 1, 17, 39):
            self.check([0, 2, 3], 1, month, [7, 90, 2, 3])
            self.check([0, 13, 17], 1, month, [1, 1, 13, 17])

    def test_two_lots(self):
        self.check([0, 3, 4], 3, 1, EXAMPLE)
        self.check([0, 5, 6], 3, 2, EXAMPLE)

    def test_several_lots(self):
        lots = [3, 100, 1, 2, 5, 60, 3, 4, 2, 10, 1, 1]
        self.check([0, 79, 124], 7, 0, lots)
        self.check([0, 211, 316], 7, 1, lots)

    def test_set_of_some_lots(self):
        lots = [3, 100, 1, 2, 5, 60, 3, 4, 2, 10, 1, 1]
        self.check([0, 1, 2], 1, 0, lots)
        self.check([0, 3, 4], 2, 0, lots)
        self.check([0, 5, 8], 3, 0, lots)
        self.check([0, 1, 1], 4, 0, lots)
        self.check([0, 17, 32], 5, 0, lots)
        self.check([0, 49, 64], 6, 0, lots)

    def test_weights_count(self):
        self.check([0, 101, 200], 3, 0, [99, 100, 1, 2, 1, 100, 1, 1])
        self.check([0, 199, 200], 3, 0, [1, 100, 1, 2, 99, 100, 1, 1])

    def test_as_the_definition_says(self):
        for mask, lots in weighty_sets():
            for month in (0, 1, 11, 39):
                self.check(model_answer(mask, month, lots), mask, month, lots)


class Edges(RetentionCase):
    def test_month_0(self):
        self.check([0, 51, 101], 3, 0, [1, 100, 1, 2, 1, 1, 1, 1])

    def test_month_39(self):
        self.check([0, 2 ** 39 + 1, 2 ** 39 + 2], 3, 39, EXAMPLE)
        self.check([0, 19, 20], 1, 39, [13, 999, 19, 20])
        self.check([0, 20 ** 40 + 1, 20 * (20 ** 39 + 1)], 3, 39, [1, 1, 1, 20, 1, 1, 1, 1])

    def test_set_that_keeps_its_strength(self):
        for month in (0, 1, 39):
            for den in (1, 2, 19, 20):
                self.check([0, 1, 1], 1, month, [5, 80, den, den])
            self.check([0, 1, 1], 3, month, [10, 60, 3, 3, 20, 40, 1, 1])
            self.check([0, 1, 1], 63, month, [99, 999, 20, 20] * 6)

    def test_num_equal_to_den_beside_others(self):
        self.check([0, 3, 4], 3, 0, [10, 50, 7, 7, 10, 50, 1, 2])

    def test_den_20(self):
        for month in (0, 1, 39):
            self.check([0, 1, 20], 1, month, [1, 1, 1, 20])
            self.check([0, 1, 2], 1, month, [1, 999, 10, 20])
            self.check([0, 19, 20], 3, month, [1, 999, 19, 20, 99, 7, 19, 20])
        self.check([0, 1, 2], 3, 0, [1, 20, 1, 20, 1, 20, 19, 20])

    def test_weight_0_beside_other_weights(self):
        self.check([0, 1, 2], 3, 2, [0, 999, 1, 1, 4, 100, 1, 2])
        self.check([0, 1, 2], 3, 2, [4, 100, 1, 2, 0, 999, 1, 1])
        self.check([0, 2, 3], 7, 0, EXAMPLE + [0, 999, 1, 20])

    def test_strength_0_beside_other_strengths(self):
        self.check([0, 1, 2], 3, 0, [9, 0, 1, 1, 1, 20, 1, 2])
        self.check([0, 1, 2], 3, 39, [1, 20, 1, 2, 9, 0, 1, 1])
        self.check([0, 2, 3], 7, 0, EXAMPLE + [99, 0, 1, 20])

    def test_strength_1_at_the_end_is_not_0(self):
        self.check([0, 1, 20], 1, 39, [1, 1, 1, 20])
        self.check([0, 1, 20], 63, 39, [1, 1, 1, 20] + [99, 0, 1, 1] * 5)

    def test_six_lots(self):
        lots = []
        for strength in (100, 200, 300, 400, 500, 900):
            lots += [3, strength, 1, 2]
        self.check([0, 1, 2], 63, 0, lots)
        self.check([0, 1, 2], 63, 39, lots)
        self.check([0, 5, 8], 63, 0, lots[:12] + [6, 100, 1, 1, 0, 999, 1, 3, 9, 0, 1, 7])
        for mask in (1, 2, 18, 51, 63):
            for month in (0, 5, 39):
                self.check(model_answer(mask, month, SIX), mask, month, SIX)

    def test_lowest_terms(self):
        for mask, lots in weighty_sets():
            for month in (0, 39):
                answer = retention(mask, month, lots)
                if answer != [-33]:
                    code, numerator, denominator = answer
                    self.assertEqual(code, 0)
                    self.assertGreaterEqual(numerator, 1)
                    self.assertGreaterEqual(denominator, 1)
                    self.assertEqual(gcd(numerator, denominator), 1)


class SlowingDecline(unittest.TestCase):
    def test_never_decreases_from_month_to_month(self):
        for mask, lots in list(weighty_sets())[::4]:
            answers = [retention(mask, month, lots) for month in range(40)]
            if answers[0] == [-33]:
                self.assertEqual(answers, [[-33]] * 40)
                continue
            kept = [Fraction(numerator, denominator) for code, numerator, denominator in answers]
            self.assertEqual(kept, sorted(kept))
            self.assertLessEqual(kept[-1], 1)


class WrongInputs(SetRefusals, unittest.TestCase):
    function = staticmethod(retention)
    allowed = (0, 1, 39)
    outside_range = (40, 41, 42, 999, 4294967295)

    def test_strength_0(self):
        for month in self.allowed:
            self.check([-33], 1, month, [3, 0, 1, 2])
            self.check([-33], 3, month, [3, 0, 1, 2, 4, 0, 1, 1])
            self.check([-33], 63, month, [99, 0, 20, 20] * 6)

    def test_strength_0_of_a_set_of_some_lots(self):
        lots = [5, 0, 1, 2, 5, 80, 1, 2]
        self.check([-33], 1, 0, lots)
        self.check([0, 1, 2], 2, 0, lots)
        self.check([0, 1, 2], 3, 0, lots)

    def test_only_the_weightless_lot_is_strong(self):
        self.check([-33], 3, 0, [0, 999, 1, 1, 3, 0, 1, 2])
        self.check([-33], 3, 39, [3, 0, 1, 2, 0, 999, 1, 1])

    def test_weight_comes_ahead_of_the_strength(self):
        for month in self.allowed:
            self.check([-6], 0, month, [3, 0, 1, 2])
            self.check([-6], 1, month, [0, 0, 1, 2])
            self.check([-6], 3, month, [0, 0, 1, 2, 0, 0, 1, 1, 5, 0, 1, 1])
            self.check([-6], 1, month, [0, 999, 1, 1, 3, 0, 1, 2])

    def test_limits_come_ahead_of_the_strength(self):
        self.check([-22], 1, 40, [3, 0, 1, 2])
        self.check([-22], 1, 0, [3, 0, 2, 1])
        self.check([-22], 1, 0, [3, 0, 1])
        self.check([-22], 2, 0, [3, 0, 1, 2])
        self.check([-22], 3, 0, [3, 0, 1, 2])

    def test_month_40_without_weight_or_strength(self):
        self.check([-22], 0, 40, [])
        self.check([-22], 0, 40, EXAMPLE)
        self.check([-22], 1, 40, [0, 0, 1, 2])
        self.check([-22], 4, 40, EXAMPLE)


if __name__ == "__main__":
    unittest.main()
