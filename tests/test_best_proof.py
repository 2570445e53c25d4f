import unittest

from freshlots.issuing import best_proof, shortages
from tests.helper import mask_of, proof_by_search, small_inputs, varied_inputs


class BestProofTest(unittest.TestCase):
    def check_proof(self, lots, demand, expected):
        with self.subTest(lots=lots, demand=demand):
            self.assertEqual(best_proof(lots, demand), expected)

    def test_examples(self):
        self.check_proof([0, 1, 3, 0, 0, 2], [2, 4], [1, 2])

    def test_one_week(self):
        self.check_proof([0, 0, 3], [5], [2, 1])
        self.check_proof([0, 0, 3, 0, 4, 1], [5], [1, 1])

    def test_several_lots_and_weeks(self):
        self.check_proof([0, 2, 4, 1, 1, 3, 0, 5, 5, 2, 3, 2], [3, 5, 6, 4], [4, 15])
        self.check_proof([0, 2, 4, 1, 1, 3, 0, 5, 5, 2, 3, 2], [3, 5, 6, 9], [9, 15])
        self.check_proof([0, 2, 4, 1, 1, 3, 0, 5, 5, 2, 3, 2], [0, 0, 0, 9], [2, 8])

    def test_weeks_far_apart(self):
        self.check_proof([0, 0, 1, 1, 3, 9, 4, 4, 2], [3, 1, 1, 1, 4], [4, 17])

    def test_lot_counts_once_for_all_its_weeks(self):
        self.check_proof([0, 2, 4], [2, 2, 2], [2, 7])
        self.check_proof([0, 2, 4], [3, 0, 3], [2, 5])

    def test_lot_counts_in_its_first_and_its_last_week(self):
        self.check_proof([1, 3, 2], [1, 2, 3, 4, 5], [13, 31])
        self.check_proof([1, 3, 2], [1, 2, 0, 0, 5], [6, 17])
        self.check_proof([1, 3, 2], [1, 0, 0, 2, 5], [6, 17])

    def test_lot_that_is_usable_in_no_week_of_the_set(self):
        self.check_proof([2, 3, 5], [1, 3], [4, 3])
        self.check_proof([99, 99, 99], [1, 3], [4, 3])
        self.check_proof([0, 0, 99], [1, 3], [3, 2])

    def test_nothing_is_short(self):
        self.check_proof([0, 1, 6, 0, 0, 2], [2, 4], [0, 0])
        self.check_proof([0, 1, 4, 0, 0, 2], [2, 4], [0, 0])
        self.check_proof([0, 0, 99], [99], [0, 0])
        self.check_proof([0, 9, 99] * 6, [59] * 10, [0, 0])

    def test_no_demand(self):
        self.check_proof([], [0], [0, 0])
        self.check_proof([], [0] * 10, [0, 0])
        self.check_proof([0, 1, 3, 0, 0, 0], [0, 0], [0, 0])

    def test_smallest_of_several_masks(self):
        self.check_proof([0, 0, 1, 1, 1, 4], [3, 4], [2, 1])
        self.check_proof([1, 1, 1, 0, 0, 4], [4, 3], [2, 2])
        self.check_proof([0, 0, 2, 1, 1, 1, 2, 2, 3], [2, 5, 3], [4, 2])
        self.check_proof([0, 1, 3, 2, 2, 1], [1, 2, 4], [3, 4])

    def test_week_with_no_demand(self):
        self.check_proof([], [3, 0, 3], [6, 5])
        self.check_proof([], [0, 3], [3, 2])
        self.check_proof([0, 0, 1], [0, 0, 2, 0], [2, 4])
        self.check_proof([0, 2, 1], [2, 0, 2], [3, 5])

    def test_no_lots(self):
        self.check_proof([], [7], [7, 1])
        self.check_proof([], [7, 0, 99], [106, 5])
        self.check_proof([], [99] * 10, [990, 1023])

    def test_each_week_alone(self):
        for week in range(10):
            demand = [0] * 10
            demand[week] = 8
            self.check_proof([], demand, [8, 1 << week])
            self.check_proof([week, week, 5], demand, [3, 1 << week])
            self.check_proof([0, 9, 8], demand, [0, 0])

    def test_six_lots_and_ten_weeks_with_amounts_of_99(self):
        self.check_proof([0, 9, 99] * 6, [99] * 10, [396, 1023])
        self.check_proof([0, 99, 99] * 6, [99] * 10, [396, 1023])
        self.check_proof([0, 4, 99] * 6, [99] * 10, [495, 992])
        self.check_proof([0, 8, 99] * 6, [99] * 10, [396, 1023])
        self.check_proof([9, 9, 99] * 6, [99] * 10, [891, 511])
        self.check_proof([10, 99, 99] * 6, [99] * 10, [990, 1023])

    def test_like_a_search_of_all_sets(self):
        for inputs in (small_inputs(), varied_inputs(500)):
            for _, lots, demand in inputs:
                greatest, sets = proof_by_search(lots, demand)
                smallest = min(mask_of(weeks) for weeks in sets)
                self.assertEqual(best_proof(lots, demand), [greatest, smallest], (lots, demand))

    def test_a_set_proves_nothing_only_where_nothing_is_short(self):
        for _, lots, demand in varied_inputs(500):
            proven = best_proof(lots, demand)
            self.assertEqual(proven[1] == 0, shortages(0, lots, demand)[0] == 0, (lots, demand))


if __name__ == "__main__":
    unittest.main()
