import unittest

from freshlots.issuing import shortage_saved, shortages
from tests.helper import (
    HIGHEST_HANDED_IN, inputs_to_try_out, issue_unit_by_unit, least_shortage, small_inputs, varied_inputs
)

LOTS = [0, 1, 3, 0, 0, 2]
DEMAND = [2, 4]


def with_one_more(lot, lots):
    """A copy of the lots with one more unit of the lot."""
    more = list(lots)
    more[3 * lot + 2] += 1
    return more


class ShortageSavedTest(unittest.TestCase):
    def check_every_lot(self, lots, demand, expected):
        with self.subTest(lots=lots, demand=demand):
            answers = [shortage_saved(lot, lots, demand) for lot in range(len(lots) // 3)]
            self.assertEqual(answers, [[saved] for saved in expected])

    def test_examples(self):
        self.assertEqual(shortage_saved(0, [0, 1, 3, 0, 0, 2], [2, 4]), [1])

    def test_one_lot(self):
        self.check_every_lot([0, 0, 3], [5], [1])
        self.check_every_lot([0, 0, 4], [5], [1])
        self.check_every_lot([0, 0, 5], [5], [0])
        self.check_every_lot([0, 0, 6], [5], [0])

    def test_several_lots(self):
        self.check_every_lot(LOTS, DEMAND, [1, 0])
        self.check_every_lot([0, 1, 3, 0, 0, 1], DEMAND, [1, 1])
        self.check_every_lot([0, 0, 1, 1, 1, 1, 2, 2, 1], [2, 1, 3], [1, 0, 1])
        self.check_every_lot([0, 2, 4, 1, 1, 3, 0, 5, 5, 2, 3, 2], [3, 5, 6, 4], [1, 1, 1, 1])
        self.check_every_lot([0, 2, 4, 1, 1, 3, 0, 5, 5, 2, 3, 2], [3, 3, 2, 7], [1, 0, 1, 1])
        self.check_every_lot([0, 2, 4, 1, 1, 3, 0, 5, 5, 2, 3, 2], [3, 2, 1, 8], [0, 0, 1, 1])

    def test_one_more_unit_frees_another_lot_for_a_later_week(self):
        self.check_every_lot([0, 0, 1, 0, 1, 2], [2, 2], [1, 1])
        self.check_every_lot([0, 0, 0, 0, 1, 1, 1, 2, 3], [1, 1, 3], [1, 1, 1])
        self.check_every_lot([0, 0, 2, 0, 1, 2], [2, 3], [0, 1])

    def test_shortage_that_comes_ahead_of_the_lot(self):
        self.check_every_lot([1, 2, 3], [5, 3, 0], [0])
        self.check_every_lot([1, 2, 3, 0, 0, 4], [5, 3, 0], [0, 1])

    def test_shortage_that_comes_behind_the_lot(self):
        self.check_every_lot([0, 1, 3], [2, 1, 5], [0])
        self.check_every_lot([0, 1, 2], [2, 1, 5], [1])
        self.check_every_lot([0, 1, 3, 2, 9, 4], [2, 1, 5], [0, 1])

    def test_shortage_in_the_first_and_in_the_last_week_of_the_lot(self):
        self.check_every_lot([1, 3, 0], [0, 1, 0, 0, 0], [1])
        self.check_every_lot([1, 3, 0], [0, 0, 0, 1, 0], [1])
        self.check_every_lot([1, 3, 0], [1, 0, 0, 0, 1], [0])

    def test_lot_with_no_amount(self):
        self.check_every_lot([0, 0, 0], [1], [1])
        self.check_every_lot([0, 0, 0], [0], [0])
        self.check_every_lot([0, 1, 0, 0, 1, 0, 1, 1, 0], [0, 2], [1, 1, 1])
        self.check_every_lot([0, 0, 0, 1, 1, 0], [0, 2], [0, 1])

    def test_lot_with_an_amount_of_99(self):
        self.check_every_lot([0, 1, 99], [99, 99], [1])
        self.check_every_lot([0, 1, 99], [99, 1], [1])
        self.check_every_lot([0, 1, 99], [99, 0], [0])
        self.check_every_lot([0, 0, 99], [99], [0])
        self.check_every_lot([0, 1, 99, 1, 1, 99], [99, 99], [0, 0])
        self.check_every_lot([0, 1, 3, 0, 0, 99], [99, 4], [1, 0])
        self.check_every_lot([0, 1, 3, 0, 0, 99, 1, 1, 99], [99, 99], [0, 0, 0])
        self.check_every_lot([0, 99, 99] * 6, [99] * 6 + [1], [1] * 6)
        self.check_every_lot([0, 99, 99] * 6, [99] * 6, [0] * 6)

    def test_lot_that_is_usable_in_no_week(self):
        self.check_every_lot([2, 9, 3], [5, 5], [0])
        self.check_every_lot([99, 99, 99, 0, 1, 3], [5, 5], [0, 1])
        self.check_every_lot([2, 2, 0], [5, 5], [0])

    def test_nothing_is_short(self):
        self.check_every_lot([0, 1, 6, 0, 0, 2], DEMAND, [0, 0])
        self.check_every_lot([0, 1, 4, 0, 0, 2], DEMAND, [0, 0])
        self.check_every_lot([0, 1, 4, 0, 0, 2], [0, 0], [0, 0])
        self.check_every_lot([0, 9, 99] * 6, [59] * 10, [0] * 6)

    def test_shortage_is_that_of_rule_0(self):
        """By rule 1, one more unit of lot 1 would save nothing, and one of lot 0 would save 1."""
        self.check_every_lot([0, 1, 2, 0, 0, 2], [2, 2], [0, 0])
        self.check_every_lot([0, 1, 3, 0, 0, 1], [2, 3], [1, 1])

    def test_six_lots_and_ten_weeks_with_amounts_of_99(self):
        self.check_every_lot([0, 9, 99] * 6, [99] * 10, [1] * 6)
        self.check_every_lot([0, 4, 99] * 6, [99] * 10, [0] * 6)
        self.check_every_lot([0, 4, 99] * 3 + [5, 9, 99] * 3, [99] * 10, [1] * 6)
        self.check_every_lot([9, 9, 99] * 6, [99] * 10, [0] * 6)
        self.check_every_lot([10, 99, 99] * 6, [99] * 10, [0] * 6)
        self.check_every_lot([0, 0, 99, 1, 1, 99, 2, 9, 99, 3, 9, 99, 4, 9, 99, 5, 5, 99], [99] * 10, [0, 0, 1, 1, 1, 0])

    def test_no_lots(self):
        self.check_every_lot([], [5], [])

    def test_difference_of_two_shortages(self):
        compared = 0
        for inputs in (small_inputs(), varied_inputs()):
            for _, lots, demand in inputs:
                for lot in range(len(lots) // 3):
                    if lots[3 * lot + 2] == 99:
                        continue
                    difference = shortages(0, lots, demand)[0] - shortages(0, with_one_more(lot, lots), demand)[0]
                    self.assertEqual(shortage_saved(lot, lots, demand), [difference], (lot, lots, demand))
                    compared += difference
        self.assertGreater(compared, 1000)

    def test_like_issuing_unit_by_unit(self):
        for _, lots, demand in varied_inputs(1000):
            for lot in range(len(lots) // 3):
                unmet = [sum(issue_unit_by_unit(0, handed, demand)[0]) for handed in (lots, with_one_more(lot, lots))]
                self.assertEqual(shortage_saved(lot, lots, demand), [unmet[0] - unmet[1]], (lot, lots, demand))

    def test_like_trying_every_way_to_issue(self):
        for lots, demand in inputs_to_try_out():
            for lot in range(len(lots) // 3):
                difference = least_shortage(lots, demand) - least_shortage(with_one_more(lot, lots), demand)
                self.assertEqual(shortage_saved(lot, lots, demand), [difference], (lot, lots, demand))


class ShortageSavedErrorsTest(unittest.TestCase):
    def test_lot_that_does_not_exist(self):
        for count in range(7):
            for lot in (count, count + 1, 6, 7, 99, 100, HIGHEST_HANDED_IN):
                with self.subTest(lot=lot, count=count):
                    self.assertEqual(shortage_saved(lot, [0, 1, 1] * count, [9, 9]), [-2])
                    self.assertEqual(shortage_saved(lot, [0, 1, 99] * count, [0] * 10), [-2])
            for lot in range(count):
                self.assertEqual(shortage_saved(lot, [0, 1, 1] * count, [9, 9]), [1])

    def test_no_lots(self):
        for lot in (0, 1, 2, HIGHEST_HANDED_IN):
            self.assertEqual(shortage_saved(lot, [], [5]), [-2])

    def test_weeks_are_not_taken_for_lots(self):
        self.assertEqual(shortage_saved(1, [0, 1, 3], [9, 9, 9]), [-2])
        self.assertEqual(shortage_saved(2, [0, 1, 3] * 3, [10]), [1])

    def test_which_error_comes_first(self):
        for lot in (0, 1, 2, 6, HIGHEST_HANDED_IN):
            with self.subTest(lot=lot):
                self.assertEqual(shortage_saved(lot, [1, 0, 3], DEMAND), [-22])
                self.assertEqual(shortage_saved(lot, [0, 100, 3], DEMAND), [-22])
                self.assertEqual(shortage_saved(lot, [0, 1, 100], DEMAND), [-22])
                self.assertEqual(shortage_saved(lot, [0, 1], DEMAND), [-22])
                self.assertEqual(shortage_saved(lot, [0, 1, 3] * 7, DEMAND), [-22])
                self.assertEqual(shortage_saved(lot, LOTS, []), [-22])
                self.assertEqual(shortage_saved(lot, LOTS, [2, 100]), [-22])
                self.assertEqual(shortage_saved(lot, LOTS, [1] * 11), [-22])
                self.assertEqual(shortage_saved(lot, [], [1] * 12), [-22])


if __name__ == "__main__":
    unittest.main()
