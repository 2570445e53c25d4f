import itertools
import random
import unittest

from freshlots.issuing import check_plan, shortages
from tests.helper import (
    HIGHEST_HANDED_IN, RULES, feasible_unit_by_unit, small_inputs, table_of_issuing, varied_inputs
)

LOTS = [0, 1, 3, 0, 0, 2]
DEMAND = [2, 4]
# Lot 0 is usable in the weeks 0 to 2, lot 1 in week 1 alone, lot 2 from week 2 on.
THREE_LOTS = [0, 2, 5, 1, 1, 3, 2, 9, 4]


def varied_tables(count=3000):
    """Plans near to what is issued, with their lots and demand: the same ones in every run."""
    source = random.Random(21)
    for rule, lots, demand in varied_inputs(count):
        table = table_of_issuing(rule, lots, demand)
        for _ in range(source.randint(0, 3)):
            change = source.choice(("more", "less", "swap", "less and more", "end"))
            places = source.choices(range(len(table)), k=2) if table else [0, 0]
            if change == "end" or not table:
                table = table[:-1] if source.random() < 0.5 else (table + [source.randint(0, 1)])[:62]
                continue
            one, other = places
            if change == "swap":
                table[one], table[other] = table[other], table[one]
            if change in ("less", "less and more") and table[one] > 0:
                table[one] -= 1
            if change in ("more", "less and more") and table[other] < 99:
                table[other] += 1
        yield lots, demand, table


class CheckPlanTest(unittest.TestCase):
    def check(self, lots, demand, table, expected):
        with self.subTest(lots=lots, demand=demand, table=table):
            self.assertEqual(check_plan(lots, demand, table), expected)

    def test_examples(self):
        self.check([0, 1, 3, 0, 0, 2], [2, 4], [0, 2, 3, 0], [1, 1])

    def test_feasible_plans(self):
        self.check(LOTS, DEMAND, [2, 0, 1, 0], [1, 3])
        self.check(LOTS, DEMAND, [1, 1, 2, 0], [1, 2])
        self.check(LOTS, DEMAND, [0, 1, 1, 0], [1, 4])
        self.check(THREE_LOTS, [3, 5, 6, 4], [3, 0, 0, 1, 3, 0, 1, 0, 4, 0, 0, 0], [1, 6])
        self.check(THREE_LOTS, [3, 5, 6, 4], [2, 0, 0, 2, 2, 0, 1, 0, 1, 0, 0, 3], [1, 7])

    def test_what_is_issued_is_feasible(self):
        for inputs in (small_inputs(), varied_inputs()):
            for rule, lots, demand in inputs:
                table = table_of_issuing(rule, lots, demand)
                expected = [1, shortages(rule, lots, demand)[0]]
                self.assertEqual(check_plan(lots, demand, table), expected, (rule, lots, demand))

    def test_nothing_is_used(self):
        self.check(LOTS, DEMAND, [0] * 4, [1, 6])
        self.check([5, 9, 0], [0], [0], [1, 0])
        self.check([0, 9, 99] * 6, [99] * 10, [0] * 60, [1, 990])

    def test_demand_of_a_week(self):
        self.check([0, 2, 90], [2, 3, 4], [2, 3, 4], [1, 0])
        self.check([0, 2, 90], [2, 3, 4], [3, 0, 0], [0, 6])
        self.check([0, 2, 90], [2, 3, 4], [0, 4, 0], [0, 5])
        self.check([0, 2, 90], [2, 3, 4], [0, 0, 5], [0, 4])
        self.check([0, 2, 90], [2, 0, 4], [0, 1, 0], [0, 5])

    def test_demand_of_a_week_by_several_lots(self):
        self.check([0, 1, 5, 0, 1, 5], [5, 5], [2, 3, 3, 2], [1, 0])
        self.check([0, 1, 5, 0, 1, 5], [5, 5], [3, 3, 0, 0], [0, 4])
        self.check([0, 1, 5, 0, 1, 5], [5, 5], [0, 0, 1, 5], [0, 4])
        self.check([0, 0, 9] * 6, [6], [1] * 6, [1, 0])
        self.check([0, 0, 9] * 6, [5], [1] * 6, [0, 0])

    def test_amount_of_a_lot_in_total(self):
        self.check([0, 2, 6], [4, 4, 4], [2, 2, 2], [1, 6])
        self.check([0, 2, 6], [4, 4, 4], [2, 3, 2], [0, 5])
        self.check([0, 2, 6], [4, 4, 4], [3, 0, 4], [0, 5])
        self.check([0, 2, 0], [4, 4, 4], [0, 0, 1], [0, 11])
        self.check([0, 1, 9, 0, 1, 3], [9, 9], [0, 2, 0, 1], [1, 15])
        self.check([0, 1, 9, 0, 1, 3], [9, 9], [0, 2, 0, 2], [0, 14])
        self.check([0, 1, 3, 0, 1, 9], [9, 9], [2, 0, 2, 0], [0, 14])

    def test_amount_of_a_lot_in_one_week(self):
        self.check([0, 2, 6], [9, 9, 9], [0, 6, 0], [1, 21])
        self.check([0, 2, 6], [9, 9, 9], [0, 7, 0], [0, 20])

    def test_week_ahead_of_the_first_one_of_a_lot(self):
        self.check([1, 2, 5], [4, 4, 4], [0, 1, 0], [1, 11])
        self.check([1, 2, 5], [4, 4, 4], [1, 0, 0], [0, 11])
        self.check([9, 9, 5], [4] * 10, [0] * 9 + [1], [1, 39])
        self.check([9, 9, 5], [4] * 10, [0] * 8 + [1, 0], [0, 39])
        self.check([10, 99, 5], [4] * 10, [0] * 9 + [1], [0, 39])

    def test_week_behind_the_last_one_of_a_lot(self):
        self.check([0, 1, 5], [4, 4, 4], [0, 1, 0], [1, 11])
        self.check([0, 1, 5], [4, 4, 4], [0, 0, 1], [0, 11])
        self.check([0, 0, 5, 0, 2, 5], [4, 4, 4], [1, 1, 0, 1, 0, 1], [1, 8])
        self.check([0, 0, 5, 0, 2, 5], [4, 4, 4], [1, 1, 1, 0, 0, 1], [0, 8])

    def test_each_week_of_one_lot(self):
        for first, last in itertools.combinations_with_replacement(range(10), 2):
            for week in range(10):
                table = [0] * 10
                table[week] = 1
                self.check([first, last, 1], [1] * 10, table, [1 if first <= week <= last else 0, 9])

    def test_amounts_stand_week_by_week_then_lot_by_lot(self):
        self.check([0, 0, 1, 1, 1, 2], [1, 2], [1, 0, 0, 2], [1, 0])
        self.check([0, 0, 1, 1, 1, 2], [1, 2], [0, 1, 2, 0], [0, 0])
        self.check([0, 0, 1, 1, 1, 2, 2, 2, 3], [1, 2, 3], [1, 0, 0, 0, 2, 0, 0, 0, 3], [1, 0])
        self.check([0, 1, 9, 0, 1, 9, 0, 1, 9], [3, 12], [1, 1, 1, 4, 4, 4], [1, 0])
        self.check([0, 1, 9, 0, 1, 9, 0, 1, 9], [3, 12], [1, 4, 1, 4, 1, 4], [0, 0])

    def test_one_element_too_few_or_too_many(self):
        self.check(LOTS, DEMAND, [0, 2, 3], [0, 1])
        self.check(LOTS, DEMAND, [0, 2, 3, 0, 0], [0, 1])
        self.check(LOTS, DEMAND, [0, 0, 0], [0, 6])
        self.check(LOTS, DEMAND, [0, 0, 0, 0, 0], [0, 6])
        self.check([0, 0, 3], [5], [0, 0], [0, 5])

    def test_every_length(self):
        for length in range(63):
            self.check(LOTS, [2, 4, 3], [0] * length, [1 if length == 6 else 0, 9])
            self.check([0, 9, 1] * 6, [1] * 10, [0] * length, [1 if length == 60 else 0, 10])
            self.check([], [3] * 10, [0] * length, [1 if length == 0 else 0, 30])

    def test_length_for_another_number_of_lots_or_weeks(self):
        self.check([0, 1, 3], [2, 4], [0, 0, 2, 0], [0, 4])
        self.check([0, 1, 3] * 3, [2, 4], [0, 0, 2, 0], [0, 4])
        self.check([0, 1, 3] * 2, [2], [0, 0, 2, 0], [0, 0])
        self.check([0, 1, 3] * 2, [2, 2, 2], [0, 0, 2, 0], [0, 4])

    def test_empty_table(self):
        self.check([], [5], [], [1, 5])
        self.check([], [0], [], [1, 0])
        self.check([], [99] * 10, [], [1, 990])
        self.check([0, 0, 3], [5], [], [0, 5])
        self.check(LOTS, DEMAND, [], [0, 6])
        self.check([0, 0, 0], [0], [], [0, 0])

    def test_table_without_lots(self):
        self.check([], [5], [0], [0, 5])
        self.check([], [5, 5], [2, 3], [0, 5])

    def test_longest_tables(self):
        lots, demand = [0, 9, 99] * 6, [99] * 10
        self.check(lots, demand, [9] * 60, [1, 450])
        self.check(lots, demand, [9] * 59 + [18], [1, 441])
        self.check(lots, demand, [9] * 59 + [19], [0, 440])
        self.check(lots, demand, [9] * 61, [0, 441])
        self.check(lots, demand, [9] * 62, [0, 432])
        self.check(lots, demand, [0] * 62, [0, 990])
        self.check(lots, demand, [9] * 59, [0, 459])

    def test_amounts_of_99(self):
        lots = [0, 9, 99] * 6
        by_turns = [99 if index == week else 0 for week in range(10) for index in range(6)]
        self.check(lots, [99] * 10, by_turns, [1, 396])
        self.check(lots, [99] * 9 + [98], by_turns, [1, 395])
        self.check(lots, [98] + [99] * 9, by_turns, [0, 395])
        self.check([0, 9, 98] + [0, 9, 99] * 5, [99] * 10, by_turns, [0, 396])
        self.check(lots, [99] * 10, [99] * 60, [0, 0])
        self.check(lots, [99] * 10, [99] * 62, [0, 0])

    def test_more_in_the_table_than_the_demand(self):
        self.check(LOTS, DEMAND, [3, 2, 3, 0], [0, 0])
        self.check(LOTS, DEMAND, [2, 2, 3, 0], [0, 0])
        self.check(LOTS, [0, 0], [0, 1, 0, 0], [0, 0])
        self.check(LOTS, DEMAND, [99], [0, 0])
        self.check(LOTS, DEMAND, [99] * 62, [0, 0])

    def test_unmet_of_plans_that_are_not_feasible(self):
        self.check(LOTS, DEMAND, [0, 2, 0, 1], [0, 3])
        self.check(LOTS, DEMAND, [3, 0, 0, 0], [0, 3])
        self.check(LOTS, DEMAND, [0, 0, 4, 0], [0, 2])
        self.check(LOTS, DEMAND, [1, 2], [0, 3])
        self.check(LOTS, DEMAND, [1, 2, 0, 0, 2], [0, 1])

    def test_several_faults_of_a_plan(self):
        self.check([1, 1, 1], [1, 1], [2, 0], [0, 0])
        self.check([1, 1, 1], [9, 9], [2, 2, 2], [0, 12])

    def test_like_following_the_plan_unit_by_unit(self):
        feasible = 0
        for lots, demand, table in varied_tables():
            expected = 1 if feasible_unit_by_unit(lots, demand, table) else 0
            feasible += expected
            unmet = max(0, sum(demand) - sum(table))
            self.assertEqual(check_plan(lots, demand, table), [expected, unmet], (lots, demand, table))
        self.assertTrue(800 < feasible < 2200)

    def test_all_small_tables_like_following_them_unit_by_unit(self):
        for lots in ([0, 1, 2, 0, 0, 1], [1, 1, 2, 0, 1, 1], [0, 0, 3, 1, 1, 0], [1, 2, 1, 0, 9, 2]):
            for demand in ([1, 2], [3, 1], [0, 2]):
                for table in itertools.product(range(4), repeat=4):
                    expected = 1 if feasible_unit_by_unit(lots, demand, table) else 0
                    self.assertEqual(check_plan(lots, demand, list(table))[0], expected, (lots, demand, table))


class CheckPlanErrorsTest(unittest.TestCase):
    def test_element_above_99(self):
        for length in (1, 2, 3, 4, 5, 8, 60, 61, 62):
            for place in {0, length // 2, length - 1}:
                for amount in (100, 101, 1000, HIGHEST_HANDED_IN):
                    table = [0] * length
                    table[place] = amount
                    with self.subTest(length=length, place=place, amount=amount):
                        self.assertEqual(check_plan(LOTS, DEMAND, table), [-22])
                        self.assertEqual(check_plan([0, 9, 99] * 6, [99] * 10, table), [-22])
                        self.assertEqual(check_plan([], [99], table), [-22])

    def test_element_of_99_is_taken(self):
        for length in (1, 2, 3, 4, 5, 8, 60, 61, 62):
            for place in {0, length // 2, length - 1}:
                table = [0] * length
                table[place] = 99
                with self.subTest(length=length, place=place):
                    self.assertEqual(check_plan(LOTS, DEMAND, table), [0, 0])
                    expected = [1 if length == 60 else 0, 891]
                    self.assertEqual(check_plan([0, 9, 99] * 6, [99] * 10, table), expected)

    def test_every_element_above_99(self):
        for amount in (100, HIGHEST_HANDED_IN):
            self.assertEqual(check_plan(LOTS, DEMAND, [amount] * 4), [-22])
            self.assertEqual(check_plan(LOTS, DEMAND, [amount] * 62), [-22])

    def test_faulty_lots_or_demand_with_any_table(self):
        for table in ([], [0, 2, 3, 0], [0] * 62, [100], [0, 0, 0, 100], [HIGHEST_HANDED_IN] * 62):
            with self.subTest(table=table):
                self.assertEqual(check_plan([1, 0, 3, 0, 0, 2], DEMAND, table), [-22])
                self.assertEqual(check_plan([0, 1, 3, 0, 0], DEMAND, table), [-22])
                self.assertEqual(check_plan([0, 0, 1] * 7, DEMAND, table), [-22])
                self.assertEqual(check_plan(LOTS, [2, 100], table), [-22])
                self.assertEqual(check_plan(LOTS, [], table), [-22])
                self.assertEqual(check_plan(LOTS, [0] * 11, table), [-22])


class CheckPlanRequirementsTest(unittest.TestCase):
    def test_no_feasible_plan_has_a_smaller_shortage_than_rule_0(self):
        single = [[0, 0, 1], [0, 1, 2], [1, 1, 1], [1, 3, 2], [0, 9, 0], [2, 2, 2]]
        for one, other in itertools.product(single, repeat=2):
            for demand in ([2], [1, 1], [2, 1], [0, 2], [1, 2]):
                places = 2 * len(demand)
                tables = [list(table) for table in itertools.product(range(3), repeat=places)]
                answers = [check_plan(one + other, demand, table) for table in tables]
                least = min(unmet for is_feasible, unmet in answers if is_feasible)
                self.assertEqual(least, shortages(0, one + other, demand)[0], (one, other, demand))

    def test_varied_feasible_plans_have_no_smaller_shortage_than_rule_0(self):
        for lots, demand, table in varied_tables():
            is_feasible, unmet = check_plan(lots, demand, table)
            if is_feasible:
                self.assertGreaterEqual(unmet, shortages(0, lots, demand)[0], (lots, demand, table))

    def test_what_rule_0_issues_has_the_least_shortage(self):
        for _, lots, demand in varied_inputs():
            unmet = [check_plan(lots, demand, table_of_issuing(rule, lots, demand))[1] for rule in RULES]
            self.assertLessEqual(unmet[0], unmet[1], (lots, demand))


if __name__ == "__main__":
    unittest.main()
