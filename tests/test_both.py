"""What holds for the two operations that take a rule, lots and demand alike, and of both together."""

import contextlib
import io
import itertools
import unittest

from freshlots.issuing import remaining, shortages
from tests.helper import RULES, UnchangingList, rows_of, small_inputs, varied_inputs

OPERATIONS = (shortages, remaining)
HIGHEST_HANDED_IN = 4294967295
LOTS = [0, 1, 3, 0, 0, 2]
DEMAND = [2, 4]


def replaced(numbers, place, number):
    return numbers[:place] + [number] + numbers[place + 1:]


class LimitsTest(unittest.TestCase):
    def check_refused(self, rule, lots, demand):
        for operation in OPERATIONS:
            with self.subTest(operation=operation.__name__, rule=rule, lots=lots, demand=demand):
                self.assertEqual(operation(rule, lots, demand), [-22])

    def check_refused_by_both_rules(self, lots, demand):
        for rule in RULES:
            self.check_refused(rule, lots, demand)

    def check_taken(self, lots, demand):
        for rule, operation in itertools.product(RULES, OPERATIONS):
            with self.subTest(operation=operation.__name__, rule=rule, lots=lots, demand=demand):
                expected = 1 + (len(demand) if operation is shortages else len(lots) // 3)
                answer = operation(rule, lots, demand)
                self.assertEqual(len(answer), expected)
                self.assertGreaterEqual(min(answer), 0)

    def test_length_of_lots_is_not_a_multiple_of_three(self):
        for length in range(22):
            numbers = (LOTS * 4)[:length]
            if length % 3 == 0 and length <= 18:
                self.check_taken(numbers, DEMAND)
            else:
                self.check_refused_by_both_rules(numbers, DEMAND)

    def test_numbers_of_an_unfinished_lot(self):
        self.check_refused_by_both_rules([0], DEMAND)
        self.check_refused_by_both_rules([0, 0], DEMAND)
        self.check_refused_by_both_rules([0] * 19, DEMAND)
        self.check_refused_by_both_rules([0] * 20, DEMAND)

    def test_seven_lots(self):
        self.check_taken([0, 1, 3] * 6, DEMAND)
        self.check_refused_by_both_rules([0, 1, 3] * 7, DEMAND)
        self.check_refused_by_both_rules([0, 0, 0] * 7, DEMAND)

    def test_first_week_later_than_the_last_one(self):
        self.check_taken([1, 1, 3], DEMAND)
        self.check_refused_by_both_rules([1, 0, 3], DEMAND)
        self.check_refused_by_both_rules([2, 1, 0], DEMAND)
        self.check_refused_by_both_rules([99, 98, 3], DEMAND)

    def test_weeks_of_a_lot_above_99(self):
        self.check_taken([0, 99, 3], DEMAND)
        self.check_taken([99, 99, 3], DEMAND)
        self.check_refused_by_both_rules([0, 100, 3], DEMAND)
        self.check_refused_by_both_rules([100, 100, 3], DEMAND)
        self.check_refused_by_both_rules([100, 99, 3], DEMAND)

    def test_amount_above_99(self):
        self.check_taken([0, 1, 99], DEMAND)
        self.check_refused_by_both_rules([0, 1, 100], DEMAND)

    def test_fault_in_each_of_the_lots(self):
        for fault, index in itertools.product(([1, 0, 3], [0, 100, 3], [0, 1, 100]), range(6)):
            rows = [[0, 1, 3]] * 6
            self.check_refused_by_both_rules(sum(replaced(rows, index, fault), []), DEMAND)

    def test_number_of_weeks(self):
        for length in range(13):
            if 1 <= length <= 10:
                self.check_taken(LOTS, [1] * length)
                self.check_taken([], [0] * length)
            else:
                self.check_refused_by_both_rules(LOTS, [1] * length)
                self.check_refused_by_both_rules([], [0] * length)

    def test_demand_above_99(self):
        for place in range(10):
            self.check_taken(LOTS, replaced([0] * 10, place, 99))
            self.check_refused_by_both_rules(LOTS, replaced([0] * 10, place, 100))

    def test_rule_above_1(self):
        for rule in (2, 3, 99, HIGHEST_HANDED_IN):
            self.check_refused(rule, LOTS, DEMAND)
            self.check_refused(rule, [], [0])

    def test_highest_number_in_each_place(self):
        for place in range(len(LOTS)):
            self.check_refused_by_both_rules(replaced(LOTS, place, HIGHEST_HANDED_IN), DEMAND)
        for place in range(len(DEMAND)):
            self.check_refused_by_both_rules(LOTS, replaced(DEMAND, place, HIGHEST_HANDED_IN))
        self.check_refused_by_both_rules([HIGHEST_HANDED_IN] * 21, [HIGHEST_HANDED_IN] * 12)

    def test_several_faults_at_once(self):
        faulty_lots = ([0], [1, 0, 3], [0, 100, 3], [0, 1, 100], [0, 1, 3] * 7, [HIGHEST_HANDED_IN] * 20)
        faulty_demand = ([], [100], [1] * 11, [1] * 12, [HIGHEST_HANDED_IN] * 12)
        for lots, demand, rule in itertools.product(faulty_lots, faulty_demand, (0, 1, 2, HIGHEST_HANDED_IN)):
            self.check_refused(rule, lots, demand)
        for lots in faulty_lots:
            self.check_refused(2, lots, DEMAND)
        for demand in faulty_demand:
            self.check_refused(2, LOTS, demand)


class CallsTest(unittest.TestCase):
    CALLS = [
        (0, LOTS, DEMAND),
        (1, LOTS, DEMAND),
        (0, [], [5]),
        (1, [0, 9, 99] * 6, [99] * 10),
        (2, LOTS, DEMAND),
        (0, [1, 0, 3], DEMAND),
        (1, LOTS, []),
    ]

    def test_lists_handed_in_are_never_changed(self):
        for operation, (rule, lots, demand) in itertools.product(OPERATIONS, self.CALLS):
            with self.subTest(operation=operation.__name__, rule=rule, lots=lots, demand=demand):
                handed_lots, handed_demand = UnchangingList(lots), UnchangingList(demand)
                operation(rule, handed_lots, handed_demand)
                self.assertEqual(handed_lots, list(lots))
                self.assertEqual(handed_demand, list(demand))

    def test_second_call_answers_the_same(self):
        calls = list(itertools.product(OPERATIONS, self.CALLS))
        first = [operation(*call) for operation, call in calls]
        again = [operation(*call) for operation, call in reversed(calls)]
        self.assertEqual(first, again[::-1])

    def test_changing_an_answer_changes_no_later_one(self):
        for operation, call in itertools.product(OPERATIONS, self.CALLS):
            with self.subTest(operation=operation.__name__, call=call):
                answer = operation(*call)
                kept = list(answer)
                answer.append(7)
                answer[0] = 1000
                self.assertEqual(operation(*call), kept)

    def test_answer_is_a_list_of_whole_numbers(self):
        for operation, call in itertools.product(OPERATIONS, self.CALLS):
            with self.subTest(operation=operation.__name__, call=call):
                answer = operation(*call)
                self.assertIs(type(answer), list)
                self.assertEqual({type(number) for number in answer}, {int})

    def test_nothing_is_printed(self):
        printed = io.StringIO()
        with contextlib.redirect_stdout(printed), contextlib.redirect_stderr(printed):
            for operation, call in itertools.product(OPERATIONS, self.CALLS):
                operation(*call)
        self.assertEqual(printed.getvalue(), "")

    def test_arguments_bear_the_names_of_the_document(self):
        for operation in OPERATIONS:
            with self.subTest(operation=operation.__name__):
                by_name = operation(demand=DEMAND, lots=LOTS, rule=1)
                self.assertEqual(by_name, operation(1, LOTS, DEMAND))


class BalanceTest(unittest.TestCase):
    def test_issued_and_remaining_add_up_to_all_amounts(self):
        for inputs in (small_inputs(), varied_inputs()):
            for rule, lots, demand in inputs:
                issued = sum(demand) - shortages(rule, lots, demand)[0]
                left = remaining(rule, lots, demand)[1:]
                self.assertEqual(issued + sum(left), sum(lots[2::3]), (rule, lots, demand))

    def test_no_shortage_exceeds_its_demand_and_no_remainder_its_lot(self):
        for rule, lots, demand in varied_inputs():
            unmet = shortages(rule, lots, demand)
            left = remaining(rule, lots, demand)
            self.assertEqual(unmet[0], sum(unmet[1:]))
            self.assertTrue(all(0 <= short <= wanted for short, wanted in zip(unmet[1:], demand)))
            self.assertTrue(all(0 <= kept <= row[2] for kept, row in zip(left[1:], rows_of(lots))))


if __name__ == "__main__":
    unittest.main()
