import unittest

from freshlots.issuing import issued_in_week
from tests.helper import HIGHEST_HANDED_IN, RULES, issue_unit_by_unit, small_inputs, varied_inputs

FOUR_LOTS = [0, 2, 4, 1, 1, 3, 0, 5, 5, 2, 3, 2]


class IssuedInWeekTest(unittest.TestCase):
    def check_every_week(self, rule, lots, demand, expected):
        """`expected` has, for each week, the amount taken from each lot."""
        answers = [issued_in_week(rule, week, lots, demand) for week in range(len(demand))]
        self.assertEqual(answers, [[len(lots) // 3] + amounts for amounts in expected])

    def check_both_rules(self, lots, demand, expected):
        for rule in RULES:
            with self.subTest(rule=rule, lots=lots, demand=demand):
                self.check_every_week(rule, lots, demand, expected)

    def test_examples(self):
        self.assertEqual(issued_in_week(0, 2, [0, 1, 3, 0, 0, 2], [2, 4]), [-2])

    def test_weeks_of_the_examples(self):
        self.check_every_week(0, [0, 1, 3, 0, 0, 2], [2, 4], [[0, 2], [3, 0]])
        self.check_every_week(1, [0, 1, 3, 0, 0, 2], [2, 4], [[2, 0], [1, 0]])

    def test_several_lots_and_weeks(self):
        demand = [3, 5, 6, 4]
        self.check_every_week(0, FOUR_LOTS, demand, [[3, 0, 0, 0], [1, 3, 1, 0], [0, 0, 4, 2], [0, 0, 0, 0]])
        self.check_every_week(1, FOUR_LOTS, demand, [[0, 0, 3, 0], [3, 0, 2, 0], [1, 0, 0, 2], [0, 0, 0, 0]])

    def test_enough_for_every_week(self):
        demand = [1, 2, 1, 1]
        self.check_every_week(0, FOUR_LOTS, demand, [[1, 0, 0, 0], [0, 2, 0, 0], [1, 0, 0, 0], [0, 0, 0, 1]])
        self.check_every_week(1, FOUR_LOTS, demand, [[0, 0, 1, 0], [0, 0, 2, 0], [0, 0, 1, 0], [0, 0, 1, 0]])

    def test_same_last_week_is_used_by_increasing_index(self):
        self.check_both_rules([0, 1, 2, 0, 1, 3, 0, 1, 4], [1, 5], [[1, 0, 0], [1, 3, 1]])
        self.check_both_rules([0, 1, 2, 0, 1, 3, 0, 1, 4], [4, 3], [[2, 2, 0], [0, 1, 2]])
        self.check_both_rules([0, 0, 1] * 6, [4], [[1, 1, 1, 1, 0, 0]])

    def test_same_last_week_among_other_lots(self):
        lots = [0, 2, 5, 0, 1, 5, 0, 2, 5, 0, 1, 5]
        self.check_every_week(0, lots, [6, 6, 6], [[0, 5, 0, 1], [2, 0, 0, 4], [3, 0, 3, 0]])
        self.check_every_week(1, lots, [6, 6, 6], [[5, 0, 1, 0], [0, 2, 4, 0], [0, 0, 0, 0]])

    def test_same_last_week_counts_although_the_first_week_differs(self):
        self.check_both_rules([1, 1, 2, 0, 1, 2], [0, 1], [[0, 0], [1, 0]])
        self.check_both_rules([0, 1, 2, 1, 1, 2], [0, 1], [[0, 0], [1, 0]])

    def test_no_lots(self):
        self.check_both_rules([], [7, 0, 99], [[], [], []])

    def test_six_lots(self):
        lots = [0, 5, 1, 0, 4, 2, 0, 3, 3, 0, 2, 4, 0, 1, 5, 0, 0, 6]
        self.check_every_week(0, lots, [4, 4, 4, 4], [
            [0, 0, 0, 0, 0, 4], [0, 0, 0, 0, 4, 0], [0, 0, 0, 4, 0, 0], [0, 1, 3, 0, 0, 0],
        ])
        self.check_every_week(1, lots, [4, 4, 4, 4], [
            [1, 2, 1, 0, 0, 0], [0, 0, 2, 2, 0, 0], [0, 0, 0, 2, 0, 0], [0, 0, 0, 0, 0, 0],
        ])

    def test_ten_weeks(self):
        lots, demand = [0, 9, 20, 4, 6, 10, 9, 10, 15], [1, 2, 3, 4, 5, 6, 7, 8, 9, 10]
        self.check_every_week(0, lots, demand, [
            [1, 0, 0], [2, 0, 0], [3, 0, 0], [4, 0, 0], [0, 5, 0],
            [1, 5, 0], [7, 0, 0], [2, 0, 0], [0, 0, 0], [0, 0, 10],
        ])
        self.check_every_week(1, lots, demand, [
            [1, 0, 0], [2, 0, 0], [3, 0, 0], [4, 0, 0], [5, 0, 0],
            [5, 1, 0], [0, 7, 0], [0, 0, 0], [0, 0, 0], [0, 0, 10],
        ])

    def test_one_week(self):
        self.check_both_rules([0, 0, 3], [5], [[3]])
        self.check_both_rules([0, 0, 7], [5], [[5]])

    def test_week_with_no_demand(self):
        self.check_both_rules([0, 2, 5, 0, 2, 5], [1, 0, 2], [[1, 0], [0, 0], [2, 0]])
        self.check_both_rules([0, 2, 5], [0], [[0]])

    def test_lot_that_is_not_usable_in_the_week(self):
        self.check_both_rules([1, 2, 9], [1, 1, 1, 1], [[0], [1], [1], [0]])
        self.check_both_rules([3, 9, 9, 99, 99, 9], [1, 1], [[0, 0], [0, 0]])

    def test_lot_that_is_used_up_before_the_week(self):
        self.check_both_rules([0, 2, 3], [2, 2, 2], [[2], [1], [0]])
        self.check_both_rules([0, 2, 3, 0, 2, 1], [3, 1, 1], [[3, 0], [0, 1], [0, 0]])
        self.check_both_rules([0, 2, 0], [2, 2, 2], [[0], [0], [0]])

    def test_ninety_nine(self):
        self.check_both_rules([0, 99, 99], [99, 99], [[99], [0]])
        self.check_both_rules([0, 9, 99] * 6, [99] * 3, [
            [99, 0, 0, 0, 0, 0], [0, 99, 0, 0, 0, 0], [0, 0, 99, 0, 0, 0],
        ])

    def test_week_that_does_not_exist(self):
        for weeks in range(1, 11):
            for rule in RULES:
                for week in (weeks, weeks + 1, 99, 100, HIGHEST_HANDED_IN):
                    with self.subTest(rule=rule, week=week, weeks=weeks):
                        self.assertEqual(issued_in_week(rule, week, [0, 99, 50], [1] * weeks), [-2])
                        self.assertEqual(issued_in_week(rule, week, [], [0] * weeks), [-2])
                self.assertEqual(issued_in_week(rule, weeks - 1, [0, 99, 50], [1] * weeks), [1, 1])

    def test_which_error_comes_first(self):
        good_lots, faulty_lots = [0, 1, 3], [1, 0, 3]
        for week in (0, 2, 3, HIGHEST_HANDED_IN):
            for rule in (0, 1, 2, HIGHEST_HANDED_IN):
                with self.subTest(rule=rule, week=week):
                    self.assertEqual(issued_in_week(rule, week, faulty_lots, [2, 4]), [-22])
                    self.assertEqual(issued_in_week(rule, week, good_lots, [2, 100]), [-22])
                    self.assertEqual(issued_in_week(rule, week, good_lots, []), [-22])
        for week in (2, 3, HIGHEST_HANDED_IN):
            self.assertEqual(issued_in_week(2, week, good_lots, [2, 4]), [-22])
            self.assertEqual(issued_in_week(HIGHEST_HANDED_IN, week, good_lots, [2, 4]), [-22])
            self.assertEqual(issued_in_week(1, week, good_lots, [2, 4]), [-2])

    def test_like_issuing_unit_by_unit(self):
        for inputs in (small_inputs(), varied_inputs()):
            for rule, lots, demand in inputs:
                _, _, taken = issue_unit_by_unit(rule, lots, demand)
                self.check_every_week(rule, lots, demand, taken)


if __name__ == "__main__":
    unittest.main()
