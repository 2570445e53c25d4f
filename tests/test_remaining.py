import unittest

from freshlots.issuing import remaining
from tests.helper import RULES, issue_unit_by_unit, rows_of, small_inputs, varied_inputs

FOUR_LOTS = [0, 2, 4, 1, 1, 3, 0, 5, 5, 2, 3, 2]


class RemainingTest(unittest.TestCase):
    def check_both_rules(self, lots, demand, expected):
        for rule in RULES:
            with self.subTest(rule=rule, lots=lots, demand=demand):
                self.assertEqual(remaining(rule, lots, demand), expected)

    def test_examples(self):
        self.assertEqual(remaining(1, [0, 1, 3, 0, 0, 2], [2, 4]), [2, 0, 2])

    def test_several_lots_and_weeks(self):
        self.assertEqual(remaining(0, FOUR_LOTS, [1, 2, 1, 0]), [5, 2, 1, 5, 2])
        self.assertEqual(remaining(1, FOUR_LOTS, [1, 2, 1, 0]), [9, 4, 3, 1, 2])

    def test_all_is_used(self):
        self.assertEqual(remaining(0, FOUR_LOTS, [3, 5, 6, 4]), [0, 0, 0, 0, 0])
        self.assertEqual(remaining(1, FOUR_LOTS, [3, 5, 6, 4]), [3, 0, 3, 0, 0])

    def test_same_last_week_is_used_by_increasing_index(self):
        self.check_both_rules([0, 1, 2, 0, 1, 3, 0, 1, 4], [1, 0], [8, 1, 3, 4])
        self.check_both_rules([0, 1, 2, 0, 1, 3, 0, 1, 4], [1, 2], [6, 0, 2, 4])
        self.check_both_rules([0, 1, 2, 0, 1, 3, 0, 1, 4], [3, 3], [3, 0, 0, 3])

    def test_same_last_week_among_other_lots(self):
        lots = [0, 2, 5, 0, 1, 5, 0, 2, 5, 0, 1, 5]
        self.assertEqual(remaining(0, lots, [6, 0, 0]), [14, 5, 0, 5, 4])
        self.assertEqual(remaining(1, lots, [6, 0, 0]), [14, 0, 5, 4, 5])

    def test_same_last_week_counts_although_the_first_week_differs(self):
        self.check_both_rules([1, 1, 2, 0, 1, 2], [0, 1], [3, 1, 2])
        self.check_both_rules([0, 1, 2, 1, 1, 2], [0, 1], [3, 1, 2])

    def test_last_week_is_not_one_of_the_weeks(self):
        self.check_both_rules([0, 1, 5], [1, 1], [3, 3])
        self.check_both_rules([0, 2, 5], [1, 1], [0, 3])
        self.check_both_rules([0, 99, 5], [1, 1], [0, 3])

    def test_lot_that_is_usable_in_no_week(self):
        self.check_both_rules([2, 2, 5], [1, 3], [0, 5])
        self.check_both_rules([99, 99, 99, 0, 0, 4], [1, 3], [3, 99, 3])

    def test_lot_whose_weeks_have_no_demand_left(self):
        self.check_both_rules([0, 0, 4, 1, 1, 6], [0, 5], [5, 4, 1])

    def test_no_lots(self):
        self.check_both_rules([], [7, 0, 99], [0])

    def test_one_week(self):
        self.check_both_rules([0, 0, 3], [5], [0, 0])
        self.check_both_rules([0, 0, 7], [5], [2, 2])

    def test_ten_weeks(self):
        lots, demand = [0, 9, 20, 4, 6, 10, 9, 10, 15], [1, 2, 3, 4, 5, 6, 7, 8, 9, 10]
        self.assertEqual(remaining(0, lots, demand), [0, 0, 0, 5])
        self.assertEqual(remaining(1, lots, demand), [2, 0, 2, 5])

    def test_zero_and_ninety_nine(self):
        self.check_both_rules([0, 0, 0], [0], [0, 0])
        self.check_both_rules([0, 0, 0], [99], [0, 0])
        self.check_both_rules([0, 0, 99], [0], [99, 99])
        self.check_both_rules([0, 0, 99], [99], [0, 0])
        self.check_both_rules([0, 99, 99], [99, 99], [0, 0])

    def test_six_lots(self):
        lots = [0, 5, 1, 0, 4, 2, 0, 3, 3, 0, 2, 4, 0, 1, 5, 0, 0, 6]
        self.assertEqual(remaining(0, lots, [4, 4, 4, 4, 4]), [3, 0, 0, 0, 0, 1, 2])
        self.assertEqual(remaining(1, lots, [4, 4, 4, 4, 4]), [11, 0, 0, 0, 0, 5, 6])
        self.check_both_rules([0, 9, 99] * 6, [1], [0, 98, 99, 99, 99, 99, 99])
        self.check_both_rules([0, 0, 99] * 6, [0], [594, 99, 99, 99, 99, 99, 99])

    def test_like_issuing_unit_by_unit(self):
        for inputs in (small_inputs(), varied_inputs()):
            for rule, lots, demand in inputs:
                _, left, _ = issue_unit_by_unit(rule, lots, demand)
                waste = sum(amount for amount, row in zip(left, rows_of(lots)) if row[1] < len(demand))
                self.assertEqual(remaining(rule, lots, demand), [waste] + left, (rule, lots, demand))


if __name__ == "__main__":
    unittest.main()
