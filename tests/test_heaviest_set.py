"""heaviest_set: the heaviest set whose mean strength in a month is at least the threshold."""

import unittest

from cases import (
    EXAMPLE, HARDLY_BELOW_232, LOTS_OUTSIDE_LIMITS, NO_LIST_OF_WHOLE_LOTS, SIX, WEIGHTLESS, AnswerChecks, LotsRefusals,
    mixed_lists, model_mean, model_weight,
)
from fadinglots.mixtures import heaviest_set

EQUAL_WEIGHTS = [3, 100, 1, 2, 3, 200, 1, 2, 3, 300, 1, 2, 3, 400, 1, 2, 3, 500, 1, 2, 3, 900, 1, 2]


def sets_at_least(threshold, month, lots):
    """The masks of the empty set and of all sets with a weight whose mean is at least the threshold."""
    masks = [0]
    for mask in range(1, 1 << (len(lots) // 4)):
        if model_weight(mask, lots) > 0 and model_mean(mask, month, lots) >= threshold:
            masks.append(mask)
    return masks


def model_answer(threshold, month, lots):
    """The answer by a search over all sets."""
    masks = sets_at_least(threshold, month, lots)
    most = max(model_weight(mask, lots) for mask in masks)
    return [most, min(mask for mask in masks if model_weight(mask, lots) == most)]


class HeaviestSetCase(AnswerChecks, unittest.TestCase):
    function = staticmethod(heaviest_set)


class OrdinaryInputs(HeaviestSetCase):
    def test_example_of_the_document(self):
        self.check([20, 3], 60, 0, EXAMPLE)

    def test_one_lot(self):
        lots = [7, 90, 2, 3]
        self.check([7, 1], 90, 0, lots)
        self.check([0, 0], 91, 0, lots)
        self.check([7, 1], 60, 1, lots)
        self.check([0, 0], 61, 1, lots)
        self.check([7, 1], 26, 3, lots)
        self.check([0, 0], 27, 3, lots)

    def test_two_lots(self):
        self.check([20, 3], 75, 0, EXAMPLE)
        self.check([10, 1], 76, 0, EXAMPLE)
        self.check([10, 1], 100, 0, EXAMPLE)
        self.check([20, 3], 37, 2, EXAMPLE)
        self.check([10, 2], 38, 2, EXAMPLE)
        self.check([10, 2], 50, 2, EXAMPLE)

    def test_several_lots(self):
        lots = [3, 100, 1, 2, 5, 60, 3, 4, 2, 10, 1, 1]
        self.check([10, 7], 62, 0, lots)
        self.check([8, 3], 63, 0, lots)
        self.check([3, 1], 76, 0, lots)
        self.check([10, 7], 39, 1, lots)
        self.check([8, 3], 40, 1, lots)
        self.check([3, 1], 47, 1, lots)
        self.check([2, 4], 10, 20, lots)

    def test_a_weak_lot_may_take_the_place_of_a_stronger_one(self):
        self.check([11, 5], 50, 0, [2, 100, 1, 1, 5, 45, 1, 1, 9, 40, 1, 1])
        self.check([11, 6], 50, 0, [5, 45, 1, 1, 2, 100, 1, 1, 9, 40, 1, 1])

    def test_six_lots(self):
        self.check([18, 63], 400, 0, EQUAL_WEIGHTS)
        self.check([15, 62], 460, 0, EQUAL_WEIGHTS)
        self.check([3, 32], 900, 0, EQUAL_WEIGHTS)
        self.check([0, 0], 901, 0, EQUAL_WEIGHTS)
        self.check([18, 63], 200, 1, EQUAL_WEIGHTS)
        self.check([159, 51], 731, 0, SIX[:16] + [49, 365, 1, 20, 1, 999, 20, 20])

    def test_as_the_definition_says(self):
        for lots in mixed_lists():
            for month in (0, 1, 7, 40):
                for threshold in (0, 1, 40, 333, 700, 998, 999):
                    self.check(model_answer(threshold, month, lots), threshold, month, lots)


class Edges(HeaviestSetCase):
    def test_no_lots(self):
        for threshold in (0, 1, 999):
            for month in (0, 1, 40):
                self.check([0, 0], threshold, month, [])

    def test_only_the_empty_set(self):
        self.check([0, 0], 101, 0, EXAMPLE)
        self.check([0, 0], 51, 1, EXAMPLE)
        self.check([0, 0], 999, 0, [99, 998, 1, 1] * 6)

    def test_sets_of_weight_0_never_exceed_the_empty_set(self):
        for threshold in (0, 1, 80, 999):
            for month in (0, 40):
                self.check([0, 0], threshold, month, [0, 80, 1, 1])
                self.check([0, 0], threshold, month, [0, 0, 1, 2])
                self.check([0, 0], threshold, month, [0, 999, 1, 1, 0, 0, 1, 2])
                self.check([0, 0], threshold, month, [0, 999, 20, 20] * 6)

    def test_weight_0_beside_other_weights(self):
        self.check([4, 2], 50, 1, [0, 999, 1, 1, 4, 100, 1, 2])
        self.check([4, 1], 50, 1, [4, 100, 1, 2, 0, 999, 1, 1])
        self.check([0, 0], 51, 1, [0, 999, 1, 1, 4, 100, 1, 2])
        self.check([4, 1], 100, 0, [4, 100, 1, 2, 0, 0, 1, 1])
        self.check([20, 5], 60, 0, [10, 100, 1, 2, 0, 999, 1, 1, 10, 50, 1, 1])

    def test_smallest_mask_of_the_same_weight(self):
        self.check([6, 3], 58, 0, [1, 100, 1, 1, 5, 50, 1, 1, 5, 50, 1, 1])
        self.check([6, 5], 58, 0, [5, 50, 1, 1, 5, 50, 1, 1, 1, 100, 1, 1])
        self.check([15, 59], 401, 0, EQUAL_WEIGHTS)
        self.check([12, 54], 461, 0, EQUAL_WEIGHTS)

    def test_smallest_mask_whatever_the_strength(self):
        lots = [1, 100, 1, 1, 5, 50, 1, 1, 5, 51, 1, 1]
        self.check([6, 3], 58, 0, lots)
        self.check([6, 5], 59, 0, lots)

    def test_smallest_mask_whatever_the_number_of_lots(self):
        self.check([5, 7], 50, 0, [1, 100, 1, 1, 2, 40, 1, 1, 2, 40, 1, 1, 4, 40, 1, 1])
        self.check([5, 9], 50, 0, [4, 40, 1, 1, 2, 40, 1, 1, 2, 40, 1, 1, 1, 100, 1, 1])

    def test_just_the_threshold_counts(self):
        self.check([20, 3], 75, 0, EXAMPLE)
        self.check([20, 3], 50, 1, EXAMPLE)
        self.check([15, 62], 460, 0, EQUAL_WEIGHTS)
        self.check([2, 3], 50, 40, [1, 60, 20, 20, 1, 40, 1, 1])

    def test_a_fraction_below_the_threshold_does_not_count(self):
        self.check([1, 2], 9, 0, [1, 8, 1, 1, 1, 9, 1, 1])
        self.check([10, 2], 26, 40, EXAMPLE)
        self.check([1, 2], 50, 40, [1, 1, 1, 20, 1, 99, 1, 1])
        self.check([115, 63], 231, 3, HARDLY_BELOW_232)
        self.check([114, 31], 232, 3, HARDLY_BELOW_232)

    def test_a_fraction_above_the_threshold_counts(self):
        self.check([2, 3], 8, 0, [1, 8, 1, 1, 1, 9, 1, 1])
        self.check([2, 3], 50, 40, [1, 1, 1, 20, 1, 100, 1, 1])

    def test_threshold_0(self):
        self.check([99, 1], 0, 40, [99, 0, 1, 20])
        self.check([20, 3], 0, 0, EXAMPLE)
        self.check([159, 59], 0, 40, SIX)
        self.check([594, 63], 0, 40, [99, 1, 1, 20] * 6)

    def test_threshold_999(self):
        self.check([1, 1], 999, 0, [1, 999, 1, 20])
        self.check([0, 0], 999, 1, [1, 999, 19, 20])
        self.check([1, 2], 999, 0, [1, 998, 1, 1, 1, 999, 1, 1])
        self.check([594, 63], 999, 40, [99, 999, 20, 20] * 6)
        self.check([100, 18], 999, 0, SIX)

    def test_month_40(self):
        self.check([1, 1], 128, 40, [1, 999, 19, 20])
        self.check([0, 0], 129, 40, [1, 999, 19, 20])
        self.check([20, 3], 25, 40, EXAMPLE)
        self.check([1, 16], 999, 40, SIX)

    def test_strength_0(self):
        self.check([3, 1], 0, 0, [3, 0, 1, 2])
        self.check([0, 0], 1, 0, [3, 0, 1, 2])
        self.check([2, 3], 10, 0, [1, 0, 1, 1, 1, 20, 1, 1])
        self.check([1, 2], 11, 0, [1, 0, 1, 1, 1, 20, 1, 1])

    def test_num_equal_to_den(self):
        for den in (1, 2, 19, 20):
            for month in (0, 1, 40):
                self.check([5, 1], 80, month, [5, 80, den, den])
                self.check([0, 0], 81, month, [5, 80, den, den])

    def test_den_20(self):
        self.check([5, 1], 1, 2, [5, 400, 1, 20])
        self.check([0, 0], 2, 2, [5, 400, 1, 20])
        self.check([5, 1], 361, 2, [5, 400, 19, 20])
        self.check([0, 0], 362, 2, [5, 400, 19, 20])


class Optimality(unittest.TestCase):
    def test_no_heavier_set_is_at_least_the_threshold(self):
        for lots in mixed_lists():
            for threshold, month in ((1, 3), (150, 2), (600, 0)):
                weight, mask = heaviest_set(threshold, month, lots)
                masks = sets_at_least(threshold, month, lots)
                self.assertIn(mask, masks)
                self.assertEqual(weight, model_weight(mask, lots))
                for other in masks:
                    self.assertLessEqual(model_weight(other, lots), weight)


class WrongInputs(LotsRefusals, unittest.TestCase):
    function = staticmethod(heaviest_set)
    allowed = (0, 1, 40)
    outside_range = (41, 42, 999, 4294967295)

    def test_threshold_outside_range(self):
        for threshold in (1000, 1001, 4294967295):
            for month in self.allowed:
                self.check([-22], threshold, month, EXAMPLE)
                self.check([-22], threshold, month, SIX)

    def test_the_numbers_are_checked_without_lots_too(self):
        self.check([-22], 1000, 0, [])
        self.check([-22], 0, 41, [])
        self.check([-22], 1000, 0, [0, 80, 1, 2])
        self.check([-22], 0, 41, [0, 80, 1, 2])

    def test_lots_are_checked_whatever_the_threshold(self):
        for lots in NO_LIST_OF_WHOLE_LOTS + LOTS_OUTSIDE_LIMITS:
            self.check([-22], 0, 40, lots)
            self.check([-22], 999, 0, lots)

    def test_no_weight_is_no_error(self):
        for _, lots in WEIGHTLESS:
            if model_weight((1 << (len(lots) // 4)) - 1, lots) == 0:
                for month in self.allowed:
                    self.check([0, 0], 0, month, lots)

    def test_several_errors_at_once(self):
        self.check([-22], 1000, 41, EXAMPLE)
        self.check([-22], 4294967295, 4294967295, EXAMPLE)
        self.check([-22], 4294967295, 4294967295, [4294967295] * 27)
        self.check([-22], 4294967295, 0, [5, 80, 1])
        self.check([-22], 0, 4294967295, [5, 80, 2, 1])
        self.check([-22], 1000, 41, [0] * 27)


if __name__ == "__main__":
    unittest.main()
