"""What the document says over the whole program: its examples and its four requirements."""

import unittest
from fractions import Fraction

from cases import EXAMPLE, Draw, drawn_lists, drawn_sets, model_mean, model_strength, model_weight
from fadinglots.mixtures import (
    first_month_reduced, heaviest_set, last_month_at, mean_strength, order_by_strength, retention,
)


def numbers_of(mask, lots):
    """The numbers of the lots of the set."""
    return [index for index in range(len(lots) // 4) if mask & (1 << index)]


class Examples(unittest.TestCase):
    def test_mean_strength(self):
        self.assertEqual(mean_strength(3, 1, EXAMPLE), [0, 50, 1])

    def test_last_month_at(self):
        self.assertEqual(last_month_at(3, 40, EXAMPLE), [1])

    def test_heaviest_set(self):
        self.assertEqual(heaviest_set(60, 0, EXAMPLE), [20, 3])

    def test_retention(self):
        self.assertEqual(retention(3, 0, EXAMPLE), [0, 2, 3])

    def test_unknown_lot(self):
        self.assertEqual(mean_strength(4, 0, EXAMPLE), [-22])


class DrawnInputs(unittest.TestCase):
    def test_they_reach_the_limits(self):
        lists = list(drawn_lists(7, 200))
        self.assertEqual({len(lots) // 4 for lots in lists}, set(range(7)))
        for place, edges in ((0, (0, 99)), (1, (0, 999)), (2, (1, 20)), (3, (1, 20))):
            values = [number for lots in lists for number in lots[place::4]]
            self.assertEqual((min(values), max(values)), edges)


class SlowingDecline(unittest.TestCase):
    def test_retention_never_decreases(self):
        slowed = 0
        for mask, lots in drawn_sets(101, 200):
            answers = [retention(mask, month, lots) for month in range(40)]
            if model_mean(mask, 0, lots) == 0:
                self.assertEqual(answers, [[-33]] * 40)
                continue
            kept = [Fraction(numerator, denominator) for code, numerator, denominator in answers]
            for month in range(39):
                self.assertLessEqual(kept[month], kept[month + 1], (mask, month, lots))
            self.assertEqual([answer[0] for answer in answers], [0] * 40)
            slowed += kept[0] < kept[39]
        # Else the drawn sets would say little.
        self.assertGreater(slowed, 80)


class Range(unittest.TestCase):
    def test_mean_strength_never_increases(self):
        fallen = 0
        for mask, lots in drawn_sets(202, 200):
            means = self.means_of(mask, lots)
            for month in range(40):
                self.assertGreaterEqual(means[month], means[month + 1], (mask, month, lots))
            fallen += means[0] > means[40]
        self.assertGreater(fallen, 100)

    def test_mean_strength_is_at_most_that_of_the_strongest_lot(self):
        for mask, lots in drawn_sets(203, 200):
            for month, mean in enumerate(self.means_of(mask, lots)):
                strengths = [model_strength(index, month, lots) for index in numbers_of(mask, lots)]
                self.assertLessEqual(mean, max(strengths), (mask, month, lots))

    def test_order_by_strength_tells_the_strongest_lot(self):
        for mask, lots in drawn_sets(204, 100):
            for month in (0, 1, 6, 40):
                order = order_by_strength(month, lots)[1:]
                strongest = [index for index in order if mask & (1 << index)][0]
                mean = self.means_of(mask, lots)[month]
                self.assertLessEqual(mean, model_strength(strongest, month, lots), (mask, month, lots))

    def means_of(self, mask, lots):
        """The mean strength in each month, as it is answered."""
        means = []
        for month in range(41):
            code, numerator, denominator = mean_strength(mask, month, lots)
            self.assertEqual(code, 0)
            means.append(Fraction(numerator, denominator))
        return means


class Optimality(unittest.TestCase):
    def test_no_set_at_the_threshold_is_heavier(self):
        neither_empty_nor_whole = 0
        draw = Draw(303)
        for mask, lots in drawn_sets(304, 150):
            month = draw.edge_or_number(0, 40) if draw.number(0, 1) else draw.number(0, 3)
            # Close to a set's own mean strength a threshold parts the sets.
            near = int(model_mean(mask, month, lots))
            for threshold in {near, min(near + 1, 999), draw.number(0, 999)}:
                weight, best = heaviest_set(threshold, month, lots)
                self.check_optimal(weight, best, threshold, month, lots)
                neither_empty_nor_whole += 0 < weight < model_weight((1 << (len(lots) // 4)) - 1, lots)
        self.assertGreater(neither_empty_nor_whole, 50)

    def check_optimal(self, weight, best, threshold, month, lots):
        self.assertEqual(model_weight(best, lots), weight)
        if best != 0:
            self.assertGreaterEqual(model_mean(best, month, lots), threshold)
        for mask in range(1 << (len(lots) // 4)):
            other = model_weight(mask, lots)
            if other > weight or (other == weight and mask < best):
                self.assertLess(model_mean(mask, month, lots), threshold, (mask, threshold, month, lots))


class Threshold(unittest.TestCase):
    def test_at_least_the_threshold_up_to_the_last_month(self):
        ended = 0
        draw = Draw(404)
        for mask, lots in drawn_sets(405, 150):
            near = int(model_mean(mask, draw.number(0, 40), lots))
            for threshold in {near, min(near + 1, 999), draw.edge_or_number(0, 999)}:
                last = last_month_at(mask, threshold, lots)[0]
                for month in range(last + 1):
                    self.assertGreaterEqual(model_mean(mask, month, lots), threshold, (mask, month, lots))
                for month in range(max(last + 1, 0), 41):
                    self.assertLess(model_mean(mask, month, lots), threshold, (mask, month, lots))
                self.assertIn(last, [-33] + list(range(41)))
                ended += 0 <= last < 40
        self.assertGreater(ended, 50)


class NothingIsKept(unittest.TestCase):
    def test_answers_do_not_depend_on_earlier_calls(self):
        calls = []
        for mask, lots in drawn_sets(505, 30):
            calls += [
                (mean_strength, mask, 3, lots), (last_month_at, mask, 20, lots), (heaviest_set, 20, 3, lots),
                (retention, mask, 3, lots), (first_month_reduced, mask, 2, lots), (order_by_strength, 3, lots),
                (mean_strength, mask, 41, lots), (order_by_strength, 3, lots + [5]),
            ]
        kept = [list(lots) for *_, lots in calls]
        answers = [function(*arguments) for function, *arguments in calls]
        backwards = [function(*arguments) for function, *arguments in reversed(calls)]
        self.assertEqual(backwards[::-1], answers)
        self.assertEqual([lots for *_, lots in calls], kept)

    def test_an_answer_is_free_to_be_changed(self):
        for function, arguments in (
            (mean_strength, (3, 1)), (last_month_at, (3, 40)), (heaviest_set, (60, 0)), (retention, (3, 0)),
            (first_month_reduced, (3, 2)), (order_by_strength, (2,)), (mean_strength, (4, 0)),
        ):
            answer = function(*arguments, EXAMPLE)
            kept = list(answer)
            answer.clear()
            self.assertEqual(function(*arguments, EXAMPLE), kept)


if __name__ == "__main__":
    unittest.main()
