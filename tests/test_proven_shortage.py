import unittest

from freshlots.issuing import best_proof, proven_shortage, shortages
from tests.helper import HIGHEST_HANDED_IN, RULES, mask_of, proofs_of_all_sets, small_inputs, varied_inputs

FOUR_LOTS = [0, 2, 4, 1, 1, 3, 0, 5, 5, 2, 3, 2]


class ProvenShortageTest(unittest.TestCase):
    def check_proven(self, weeks, lots, demand, expected):
        with self.subTest(weeks=weeks, lots=lots, demand=demand):
            self.assertEqual(proven_shortage(mask_of(weeks), lots, demand), [expected])

    def test_sets_of_the_examples(self):
        """The example of best_proof: a shortage of 1, proven by the mask 2."""
        self.assertEqual(proven_shortage(2, [0, 1, 3, 0, 0, 2], [2, 4]), [1])
        self.assertEqual(proven_shortage(0, [0, 1, 3, 0, 0, 2], [2, 4]), [0])
        self.assertEqual(proven_shortage(1, [0, 1, 3, 0, 0, 2], [2, 4]), [0])
        self.assertEqual(proven_shortage(3, [0, 1, 3, 0, 0, 2], [2, 4]), [1])

    def test_several_lots_and_weeks(self):
        demand = [9, 15, 16, 8]
        self.check_proven([1], FOUR_LOTS, demand, 3)
        self.check_proven([2], FOUR_LOTS, demand, 5)
        self.check_proven([3], FOUR_LOTS, demand, 1)
        self.check_proven([0, 1], FOUR_LOTS, demand, 12)
        self.check_proven([0, 2], FOUR_LOTS, demand, 14)
        self.check_proven([0, 3], FOUR_LOTS, demand, 6)
        self.check_proven([1, 3], FOUR_LOTS, demand, 9)
        self.check_proven([1, 2, 3], FOUR_LOTS, demand, 25)
        self.check_proven([0, 1, 2, 3], FOUR_LOTS, demand, 34)

    def test_empty_set(self):
        self.check_proven([], FOUR_LOTS, [9, 15, 16, 8], 0)
        self.check_proven([], [], [99] * 10, 0)
        self.check_proven([], [0, 9, 99] * 6, [0], 0)

    def test_each_week_alone(self):
        for week in range(10):
            demand = list(range(10, 20))
            self.check_proven([week], [], demand, 10 + week)
            self.check_proven([week], [week, week, 4], demand, 6 + week)
            self.check_proven([week], [0, week, 4, week, 9, 1], demand, 5 + week)
            self.check_proven([week], [week + 1, week + 1, 99], demand, 10 + week)

    def test_all_weeks(self):
        self.check_proven(range(10), [], list(range(10)), 45)
        self.check_proven(range(10), [0, 0, 3, 9, 9, 4, 3, 6, 5], list(range(10)), 33)
        self.check_proven([0], [0, 0, 3], [5], 2)

    def test_weeks_apart(self):
        lots, demand = [0, 0, 1, 1, 3, 9, 4, 4, 2], [3, 1, 1, 1, 4]
        self.check_proven([0, 4], lots, demand, 4)
        self.check_proven([0, 2, 4], lots, demand, 0)
        self.check_proven([0, 2, 4, 6, 8], [1, 1, 50, 3, 3, 50, 5, 7, 2], [1] * 10, 3)
        self.check_proven([0, 9], [1, 8, 99], [7] * 10, 14)

    def test_lot_counts_once_for_all_its_weeks(self):
        self.check_proven([0, 1, 2], [0, 2, 4], [2, 2, 2], 2)
        self.check_proven([0, 2], [0, 2, 4], [3, 9, 3], 2)
        self.check_proven(range(10), [0, 99, 10], [3] * 10, 20)

    def test_lot_counts_in_its_first_and_its_last_week(self):
        demand = [5] * 6
        self.check_proven([0], [1, 4, 3], demand, 5)
        self.check_proven([1], [1, 4, 3], demand, 2)
        self.check_proven([4], [1, 4, 3], demand, 2)
        self.check_proven([5], [1, 4, 3], demand, 5)
        self.check_proven([0, 5], [1, 4, 3], demand, 10)
        self.check_proven([0, 1], [1, 4, 3], demand, 7)
        self.check_proven([4, 5], [1, 4, 3], demand, 7)

    def test_lot_that_is_usable_in_no_week_of_the_set(self):
        self.check_proven([0, 2], [1, 1, 99], [3, 5, 4], 7)
        self.check_proven([0, 1, 2], [3, 9, 99], [3, 5, 4], 12)
        self.check_proven([0, 1, 2], [99, 99, 99], [3, 5, 4], 12)
        self.check_proven([1, 2], [0, 0, 99, 1, 2, 8], [3, 5, 4], 1)

    def test_less_demand_than_what_is_usable(self):
        self.check_proven([0], [0, 0, 6], [5], 0)
        self.check_proven([0], [0, 0, 5], [5], 0)
        self.check_proven([0], [0, 0, 4], [5], 1)
        self.check_proven([0, 1], [0, 0, 99, 1, 1, 1], [5, 7], 0)
        self.check_proven(range(10), [0, 9, 99] * 6, [0] * 10, 0)

    def test_week_with_no_demand(self):
        self.check_proven([0], [], [0], 0)
        self.check_proven([0, 1], [0, 0, 2], [0, 6], 4)
        self.check_proven([1], [0, 0, 2], [0, 6], 6)
        self.check_proven([0, 1, 2], [0, 2, 1], [2, 0, 2], 3)

    def test_no_lots(self):
        self.check_proven([0], [], [7], 7)
        self.check_proven([1], [], [7, 0, 99], 0)
        self.check_proven([0, 2], [], [7, 0, 99], 106)
        self.check_proven([1, 2], [], [7, 0, 99], 99)

    def test_lot_with_no_amount(self):
        self.check_proven([0, 1], [0, 1, 0, 1, 1, 0], [2, 3], 5)

    def test_six_lots_and_ten_weeks_with_amounts_of_99(self):
        demand = [99] * 10
        self.check_proven(range(10), [0, 9, 99] * 6, demand, 396)
        self.check_proven(range(7), [0, 9, 99] * 6, demand, 99)
        self.check_proven(range(6), [0, 9, 99] * 6, demand, 0)
        self.check_proven(range(10), [10, 99, 99] * 6, demand, 990)
        self.check_proven(range(5, 10), [0, 4, 99] * 6, demand, 495)
        self.check_proven(range(4, 10), [0, 4, 99] * 6, demand, 0)
        self.check_proven(range(10), [], demand, 990)

    def test_like_the_sets_of_weeks_themselves(self):
        for inputs in (small_inputs(), varied_inputs(300)):
            for _, lots, demand in inputs:
                for weeks, shortage in proofs_of_all_sets(lots, demand).items():
                    answer = proven_shortage(mask_of(weeks), lots, demand)
                    self.assertEqual(answer, [shortage], (weeks, lots, demand))

    def test_greatest_of_all_masks_is_that_of_best_proof(self):
        for inputs in (small_inputs(), varied_inputs(150)):
            for _, lots, demand in inputs:
                proven = [proven_shortage(mask, lots, demand)[0] for mask in range(2 ** len(demand))]
                greatest = max(proven)
                self.assertEqual(best_proof(lots, demand), [greatest, proven.index(greatest)], (lots, demand))

    def test_no_set_proves_more_than_the_shortage_of_either_rule(self):
        for inputs in (small_inputs(), varied_inputs(150)):
            for _, lots, demand in inputs:
                proven = [proven_shortage(mask, lots, demand)[0] for mask in range(2 ** len(demand))]
                for rule in RULES:
                    self.assertLessEqual(max(proven), shortages(rule, lots, demand)[0], (rule, lots, demand))


class ProvenShortageErrorsTest(unittest.TestCase):
    def test_mask_of_a_week_that_does_not_exist(self):
        for lots in ([], [0, 0, 3], [0, 9, 99] * 6):
            for weeks in range(1, 11):
                for mask in (2 ** weeks, 2 ** weeks + 1, 2 ** (weeks + 1) - 1, 2 ** 31, HIGHEST_HANDED_IN):
                    with self.subTest(mask=mask, lots=lots, weeks=weeks):
                        self.assertEqual(proven_shortage(mask, lots, [50] * weeks), [-22])

    def test_mask_of_all_weeks_is_taken(self):
        self.assertEqual(proven_shortage(1, [0, 0, 3], [5]), [2])
        for weeks in range(1, 11):
            self.assertEqual(proven_shortage(2 ** weeks - 1, [0, 0, 3], [5] * weeks), [5 * weeks - 3])

    def test_one_week(self):
        answers = [proven_shortage(mask, [0, 0, 3], [5]) for mask in (0, 1, 2, 3, HIGHEST_HANDED_IN)]
        self.assertEqual(answers, [[0], [2], [-22], [-22], [-22]])

    def test_ten_weeks(self):
        answers = [proven_shortage(mask, [], [1] * 10) for mask in (1022, 1023, 1024, 1025, HIGHEST_HANDED_IN)]
        self.assertEqual(answers, [[9], [10], [-22], [-22], [-22]])

    def test_good_mask_of_faulty_lots_or_demand(self):
        for mask in (0, 1, 3, 4, HIGHEST_HANDED_IN):
            with self.subTest(mask=mask):
                self.assertEqual(proven_shortage(mask, [1, 0, 3], [2, 4]), [-22])
                self.assertEqual(proven_shortage(mask, [0, 1], [2, 4]), [-22])
                self.assertEqual(proven_shortage(mask, [0, 1, 3], [2, 100]), [-22])
                self.assertEqual(proven_shortage(mask, [0, 1, 3], []), [-22])
                self.assertEqual(proven_shortage(mask, [0, 1, 3], [1] * 11), [-22])


if __name__ == "__main__":
    unittest.main()
