import unittest

from freshlots.issuing import shortages
from tests.helper import RULES, issue_unit_by_unit, small_inputs, varied_inputs

FOUR_LOTS = [0, 2, 4, 1, 1, 3, 0, 5, 5, 2, 3, 2]


class ShortagesTest(unittest.TestCase):
    def check_both_rules(self, lots, demand, expected):
        for rule in RULES:
            with self.subTest(rule=rule, lots=lots, demand=demand):
                self.assertEqual(shortages(rule, lots, demand), expected)

    def test_examples(self):
        self.assertEqual(shortages(0, [0, 1, 3, 0, 0, 2], [2, 4]), [1, 0, 1])
        self.assertEqual(shortages(1, [0, 1, 3, 0, 0, 2], [2, 4]), [3, 0, 3])

    def test_several_lots_and_weeks(self):
        self.assertEqual(shortages(0, FOUR_LOTS, [3, 5, 6, 4]), [4, 0, 0, 0, 4])
        self.assertEqual(shortages(1, FOUR_LOTS, [3, 5, 6, 4]), [7, 0, 0, 3, 4])

    def test_enough_for_every_week(self):
        self.check_both_rules(FOUR_LOTS, [1, 2, 1, 0], [0, 0, 0, 0, 0])

    def test_shortage_in_several_weeks(self):
        self.check_both_rules([1, 1, 2, 3, 3, 9], [1, 5, 2, 4], [6, 1, 3, 2, 0])

    def test_lot_is_usable_in_its_first_and_last_week(self):
        self.check_both_rules([1, 3, 9], [1, 1, 1, 1, 1], [2, 1, 0, 0, 0, 1])

    def test_same_last_week(self):
        self.check_both_rules([0, 1, 2, 0, 1, 2, 0, 1, 2], [3, 4], [1, 0, 1])

    def test_last_week_is_not_one_of_the_weeks(self):
        self.check_both_rules([1, 99, 4], [1, 3], [1, 1, 0])
        self.check_both_rules([0, 2, 3], [1, 3], [1, 0, 1])

    def test_lot_that_is_usable_in_no_week(self):
        self.check_both_rules([2, 3, 5], [1, 3], [4, 1, 3])
        self.check_both_rules([99, 99, 99], [1, 3], [4, 1, 3])

    def test_no_lots(self):
        self.check_both_rules([], [7, 0, 99], [106, 7, 0, 99])

    def test_one_week(self):
        self.check_both_rules([0, 0, 3], [5], [2, 2])
        self.check_both_rules([0, 0, 5], [5], [0, 0])

    def test_ten_weeks(self):
        lots, demand = [0, 9, 20, 4, 6, 10], [1, 2, 3, 4, 5, 6, 7, 8, 9, 10]
        self.assertEqual(shortages(0, lots, demand), [25, 0, 0, 0, 0, 0, 0, 0, 6, 9, 10])
        self.assertEqual(shortages(1, lots, demand), [27, 0, 0, 0, 0, 0, 0, 0, 8, 9, 10])

    def test_zero_and_ninety_nine(self):
        self.check_both_rules([0, 0, 0], [0], [0, 0])
        self.check_both_rules([0, 0, 0], [99], [99, 99])
        self.check_both_rules([0, 0, 99], [0], [0, 0])
        self.check_both_rules([0, 99, 99], [99, 99], [99, 0, 99])

    def test_six_lots(self):
        lots = [0, 5, 1, 0, 4, 2, 0, 3, 3, 0, 2, 4, 0, 1, 5, 0, 0, 6]
        self.assertEqual(shortages(0, lots, [4, 4, 4, 4, 4]), [2, 0, 0, 0, 0, 2])
        self.assertEqual(shortages(1, lots, [4, 4, 4, 4, 4]), [10, 0, 0, 2, 4, 4])
        self.check_both_rules([0, 9, 99] * 6, [99] * 7, [99, 0, 0, 0, 0, 0, 0, 99])

    def test_like_issuing_unit_by_unit(self):
        for inputs in (small_inputs(), varied_inputs()):
            for rule, lots, demand in inputs:
                unmet, _, _ = issue_unit_by_unit(rule, lots, demand)
                self.assertEqual(shortages(rule, lots, demand), [sum(unmet)] + unmet, (rule, lots, demand))


if __name__ == "__main__":
    unittest.main()
