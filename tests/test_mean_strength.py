"""mean_strength: the mean strength of a set in a month, in lowest terms."""

import unittest
from math import gcd

from cases import EXAMPLE, SIX, AnswerChecks, SetRefusals, model_mean, weighty_sets
from fadinglots.mixtures import mean_strength


class MeanStrengthCase(AnswerChecks, unittest.TestCase):
    function = staticmethod(mean_strength)


class OrdinaryInputs(MeanStrengthCase):
    def test_examples_of_the_document(self):
        self.check([0, 50, 1], 3, 1, EXAMPLE)
        self.check([-22], 4, 0, EXAMPLE)

    def test_one_lot(self):
        self.check([0, 90, 1], 1, 0, [7, 90, 2, 3])
        self.check([0, 60, 1], 1, 1, [7, 90, 2, 3])
        self.check([0, 80, 3], 1, 3, [7, 90, 2, 3])

    def test_several_lots(self):
        lots = [3, 100, 1, 2, 5, 60, 3, 4, 2, 10, 1, 1]
        self.check([0, 62, 1], 7, 0, lots)
        self.check([0, 211, 8], 7, 2, lots)

    def test_set_of_some_lots(self):
        lots = [3, 100, 1, 2, 5, 60, 3, 4, 2, 10, 1, 1]
        self.check([0, 34, 1], 5, 1, lots)
        self.check([0, 45, 1], 2, 1, lots)
        self.check([0, 10, 1], 4, 1, lots)
        self.check([0, 320, 7], 6, 0, lots)

    def test_weights_count(self):
        self.check([0, 349, 50], 3, 0, [99, 7, 1, 1, 1, 5, 1, 1])

    def test_as_the_definition_says(self):
        for mask, lots in weighty_sets():
            for month in (0, 1, 2, 11, 39, 40):
                mean = model_mean(mask, month, lots)
                self.check([0, mean.numerator, mean.denominator], mask, month, lots)


class Edges(MeanStrengthCase):
    def test_weight_0_beside_other_weights(self):
        self.check([0, 25, 1], 3, 2, [0, 999, 1, 1, 4, 100, 1, 2])
        self.check([0, 25, 1], 3, 2, [4, 100, 1, 2, 0, 999, 1, 1])

    def test_strength_0(self):
        for month in (0, 1, 40):
            self.check([0, 0, 1], 1, month, [99, 0, 1, 20])
            self.check([0, 0, 1], 3, month, [99, 0, 19, 20, 3, 0, 1, 1])
        self.check([0, 5, 1], 3, 1, [1, 0, 1, 2, 1, 20, 1, 2])

    def test_only_the_weightless_lot_is_strong(self):
        self.check([0, 0, 1], 3, 3, [0, 999, 1, 2, 9, 0, 1, 2])

    def test_num_equal_to_den(self):
        for den in (1, 2, 19, 20):
            for month in (0, 1, 40):
                self.check([0, 77, 1], 1, month, [5, 77, den, den])

    def test_den_20(self):
        self.check([0, 1, 4], 1, 1, [1, 5, 1, 20])
        self.check([0, 999, 20 ** 40], 1, 40, [1, 999, 1, 20])

    def test_month_0(self):
        self.check([0, 75, 1], 3, 0, EXAMPLE)

    def test_month_40(self):
        self.check([0, 999 * 19 ** 40, 20 ** 40], 1, 40, [13, 999, 19, 20])
        self.check([0, 25 * 2 ** 39 + 25, 2 ** 39], 3, 40, EXAMPLE)

    def test_strength_999_and_weight_99(self):
        self.check([0, 999, 1], 1, 0, [99, 999, 1, 20])
        self.check([0, 999, 1], 1, 40, [99, 999, 20, 20])

    def test_six_lots(self):
        self.check([0, 116230, 159], 63, 0, SIX)
        lots = []
        for strength in (100, 200, 300, 400, 500, 900):
            lots += [3, strength, 1, 2]
        self.check([0, 200, 1], 63, 1, lots)
        self.check([0, 999, 1], 63, 40, [99, 999, 20, 20] * 6)

    def test_lowest_terms(self):
        for mask, lots in weighty_sets():
            for month in (0, 1, 40):
                code, numerator, denominator = mean_strength(mask, month, lots)
                self.assertEqual(code, 0)
                self.assertGreaterEqual(numerator, 0)
                self.assertGreaterEqual(denominator, 1)
                self.assertEqual(gcd(numerator, denominator), 1)


class Range(unittest.TestCase):
    def test_never_increases_and_is_at_most_the_strongest_lot(self):
        for mask, lots in weighty_sets():
            strongest = max(lots[4 * i + 1] for i in range(len(lots) // 4) if mask & (1 << i))
            last_numerator, last_denominator = strongest, 1
            for month in range(41):
                code, numerator, denominator = mean_strength(mask, month, lots)
                self.assertEqual(code, 0)
                self.assertLessEqual(numerator * last_denominator, last_numerator * denominator)
                last_numerator, last_denominator = numerator, denominator


class WrongInputs(SetRefusals, unittest.TestCase):
    function = staticmethod(mean_strength)
    allowed = (0, 1, 40)
    outside_range = (41, 42, 999, 4294967295)


if __name__ == "__main__":
    unittest.main()
