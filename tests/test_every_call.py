"""What holds for all operations alike, and of several of them together."""

import contextlib
import io
import itertools
import unittest

from freshlots.issuing import (
    best_proof, check_plan, issued_in_week, proven_shortage, remaining, shortage_saved, shortages
)
from tests.helper import (
    HIGHEST_HANDED_IN, RULES, UnchangingList, calls, calls_by_rule, inputs_to_try_out, least_shortage, rows_of,
    small_inputs, table_of_issuing, varied_inputs
)

LOTS = [0, 1, 3, 0, 0, 2]
DEMAND = [2, 4]
WRONG_RULES = (2, 3, 99, HIGHEST_HANDED_IN)
TABLES = ([], [0, 2, 3, 0], [0] * 60, [99] * 62, [100], [0, 2, 3, 100], [HIGHEST_HANDED_IN] * 62)


def replaced(numbers, place, number):
    return numbers[:place] + [number] + numbers[place + 1:]


def answer_length(operation, lots, demand):
    if operation is shortages:
        return 1 + len(demand)
    if operation in (remaining, issued_in_week):
        return 1 + len(lots) // 3
    return 1 if operation in (proven_shortage, shortage_saved) else 2


class LimitsTest(unittest.TestCase):
    def check_answer(self, operation, arguments, expected):
        with self.subTest(operation=operation.__name__, arguments=arguments):
            self.assertEqual(operation(*arguments), expected)

    def check_refused(self, lots, demand):
        """Lots and demand go first: no other argument, right or wrong, changes the code."""
        weeks = (0, len(demand), HIGHEST_HANDED_IN)
        masks = (0, 2 ** len(demand), HIGHEST_HANDED_IN)
        indexes = (0, len(lots) // 3, HIGHEST_HANDED_IN)
        for operation, arguments in calls(lots, demand, RULES + WRONG_RULES, weeks, masks, TABLES, indexes):
            self.check_answer(operation, arguments, [-22])

    def check_taken(self, lots, demand):
        weeks, indexes = range(len(demand)), range(len(lots) // 3)
        masks = (0, 2 ** len(demand) - 1)
        tables = [[], [0] * (len(lots) // 3 * len(demand)), [99] * 62]
        for operation, arguments in calls(lots, demand, RULES, weeks, masks, tables, indexes):
            with self.subTest(operation=operation.__name__, arguments=arguments):
                answer = operation(*arguments)
                self.assertEqual(len(answer), answer_length(operation, lots, demand))
                self.assertGreaterEqual(min(answer), 0)

    def test_length_of_lots_is_not_a_multiple_of_three(self):
        for length in range(22):
            numbers = (LOTS * 4)[:length]
            if length % 3 == 0 and length <= 18:
                self.check_taken(numbers, DEMAND)
            else:
                self.check_refused(numbers, DEMAND)

    def test_numbers_of_an_unfinished_lot(self):
        self.check_refused([0], DEMAND)
        self.check_refused([0, 0], DEMAND)
        self.check_refused([0] * 19, DEMAND)
        self.check_refused([0] * 20, DEMAND)

    def test_seven_lots(self):
        self.check_taken([0, 1, 3] * 6, DEMAND)
        self.check_refused([0, 1, 3] * 7, DEMAND)
        self.check_refused([0, 0, 0] * 7, DEMAND)

    def test_first_week_later_than_the_last_one(self):
        self.check_taken([1, 1, 3], DEMAND)
        self.check_refused([1, 0, 3], DEMAND)
        self.check_refused([2, 1, 0], DEMAND)
        self.check_refused([99, 98, 3], DEMAND)

    def test_weeks_of_a_lot_above_99(self):
        self.check_taken([0, 99, 3], DEMAND)
        self.check_taken([99, 99, 3], DEMAND)
        self.check_refused([0, 100, 3], DEMAND)
        self.check_refused([100, 100, 3], DEMAND)
        self.check_refused([100, 99, 3], DEMAND)

    def test_amount_above_99(self):
        self.check_taken([0, 1, 99], DEMAND)
        self.check_refused([0, 1, 100], DEMAND)

    def test_fault_in_each_of_the_lots(self):
        for fault, index in itertools.product(([1, 0, 3], [0, 100, 3], [0, 1, 100]), range(6)):
            rows = [[0, 1, 3]] * 6
            self.check_refused(sum(replaced(rows, index, fault), []), DEMAND)

    def test_number_of_weeks(self):
        for length in range(13):
            if 1 <= length <= 10:
                self.check_taken(LOTS, [1] * length)
                self.check_taken([], [0] * length)
            else:
                self.check_refused(LOTS, [1] * length)
                self.check_refused([], [0] * length)

    def test_demand_above_99(self):
        for place in range(10):
            self.check_taken(LOTS, replaced([0] * 10, place, 99))
            self.check_refused(LOTS, replaced([0] * 10, place, 100))

    def test_rule_above_1(self):
        for lots, demand in ((LOTS, DEMAND), ([], [0])):
            weeks = (0, len(demand), HIGHEST_HANDED_IN)
            for operation, arguments in calls_by_rule(lots, demand, WRONG_RULES, weeks):
                self.check_answer(operation, arguments, [-22])

    def test_highest_number_in_each_place(self):
        for place in range(len(LOTS)):
            self.check_refused(replaced(LOTS, place, HIGHEST_HANDED_IN), DEMAND)
        for place in range(len(DEMAND)):
            self.check_refused(LOTS, replaced(DEMAND, place, HIGHEST_HANDED_IN))
        self.check_refused([HIGHEST_HANDED_IN] * 21, [HIGHEST_HANDED_IN] * 12)

    def test_lots_and_demand_both_faulty(self):
        faulty_lots = ([0], [1, 0, 3], [0, 100, 3], [0, 1, 100], [0, 1, 3] * 7, [HIGHEST_HANDED_IN] * 20)
        faulty_demand = ([], [100], [1] * 11, [1] * 12, [HIGHEST_HANDED_IN] * 12)
        for lots, demand in itertools.product(faulty_lots, faulty_demand):
            self.check_refused(lots, demand)


class CallsTest(unittest.TestCase):
    ANSWERS = [
        (shortages, (0, LOTS, DEMAND), [1, 0, 1]),
        (shortages, (1, LOTS, DEMAND), [3, 0, 3]),
        (remaining, (0, LOTS, DEMAND), [0, 0, 0]),
        (remaining, (1, LOTS, DEMAND), [2, 0, 2]),
        (issued_in_week, (0, 0, LOTS, DEMAND), [2, 0, 2]),
        (issued_in_week, (0, 2, LOTS, DEMAND), [-2]),
        (best_proof, (LOTS, DEMAND), [1, 2]),
        (best_proof, ([], [5, 0]), [5, 1]),
        (proven_shortage, (3, LOTS, DEMAND), [1]),
        (proven_shortage, (4, LOTS, DEMAND), [-22]),
        (check_plan, (LOTS, DEMAND, [0, 2, 3, 0]), [1, 1]),
        (check_plan, (LOTS, DEMAND, [3, 2]), [0, 1]),
        (check_plan, (LOTS, DEMAND, [100]), [-22]),
        (shortage_saved, (0, LOTS, DEMAND), [1]),
        (shortage_saved, (1, LOTS, DEMAND), [0]),
        (shortage_saved, (2, LOTS, DEMAND), [-2]),
    ]
    HANDED_IN = [
        (LOTS, DEMAND),
        ([], [5]),
        ([0, 9, 99] * 6, [99] * 10),
        ([1, 0, 3], DEMAND),
        (LOTS, []),
    ]

    def calls_of(self, lots, demand, tables):
        masks = (0, 1, 3, 1023, 1024)
        return calls(lots, demand, rules=(0, 1, 2), weeks=(0, 1, 2), masks=masks, tables=tables, indexes=(0, 1, 6))

    def all_calls(self):
        for lots, demand in self.HANDED_IN:
            yield from self.calls_of(lots, demand, TABLES)

    def test_lists_handed_in_are_never_changed(self):
        for lots, demand in self.HANDED_IN:
            handed_lots, handed_demand = UnchangingList(lots), UnchangingList(demand)
            handed_tables = [UnchangingList(table) for table in TABLES]
            for operation, arguments in self.calls_of(handed_lots, handed_demand, handed_tables):
                with self.subTest(operation=operation.__name__, arguments=arguments):
                    operation(*arguments)
                    self.assertEqual(handed_lots, lots)
                    self.assertEqual(handed_demand, demand)
                    self.assertEqual(handed_tables, list(TABLES))

    def test_all_seven_functions_are_called(self):
        called = {operation.__name__ for operation, _ in self.all_calls()}
        self.assertEqual(called, {operation.__name__ for operation, _, _ in self.ANSWERS})
        self.assertEqual(called, {
            "shortages", "remaining", "issued_in_week", "best_proof", "proven_shortage", "check_plan", "shortage_saved",
        })

    def test_each_call_answers_the_same_behind_any_other(self):
        for ahead, behind in itertools.product(self.ANSWERS, repeat=2):
            for operation, arguments, expected in (ahead, behind):
                with self.subTest(ahead=ahead, operation=operation.__name__, arguments=arguments):
                    self.assertEqual(operation(*arguments), expected)

    def test_second_call_answers_the_same(self):
        made = list(self.all_calls())
        first = [operation(*arguments) for operation, arguments in made]
        again = [operation(*arguments) for operation, arguments in reversed(made)]
        self.assertEqual(first, again[::-1])

    def test_changing_an_answer_changes_no_later_one(self):
        for operation, arguments in self.all_calls():
            with self.subTest(operation=operation.__name__, arguments=arguments):
                answer = operation(*arguments)
                kept = list(answer)
                answer.append(7)
                answer[0] = 1000
                self.assertEqual(operation(*arguments), kept)

    def test_answer_is_a_list_of_whole_numbers(self):
        for operation, arguments in self.all_calls():
            with self.subTest(operation=operation.__name__, arguments=arguments):
                answer = operation(*arguments)
                self.assertIs(type(answer), list)
                self.assertEqual({type(number) for number in answer}, {int})

    def test_nothing_is_printed(self):
        printed = io.StringIO()
        with contextlib.redirect_stdout(printed), contextlib.redirect_stderr(printed):
            for operation, arguments in self.all_calls():
                operation(*arguments)
        self.assertEqual(printed.getvalue(), "")

    def test_arguments_bear_the_names_of_the_document(self):
        by_name = {"rule": 1, "lots": LOTS, "demand": DEMAND}
        self.assertEqual(shortages(**by_name), shortages(1, LOTS, DEMAND))
        self.assertEqual(remaining(**by_name), remaining(1, LOTS, DEMAND))
        self.assertEqual(issued_in_week(week=0, **by_name), issued_in_week(1, 0, LOTS, DEMAND))
        self.assertEqual(best_proof(demand=DEMAND, lots=LOTS), best_proof(LOTS, DEMAND))
        self.assertEqual(proven_shortage(demand=DEMAND, lots=LOTS, mask=2), proven_shortage(2, LOTS, DEMAND))
        self.assertEqual(check_plan(table=[0] * 4, demand=DEMAND, lots=LOTS), check_plan(LOTS, DEMAND, [0] * 4))
        self.assertEqual(shortage_saved(demand=DEMAND, lots=LOTS, lot=0), shortage_saved(0, LOTS, DEMAND))


class RequirementsTest(unittest.TestCase):
    def test_no_way_to_issue_has_a_smaller_shortage_than_rule_0(self):
        for rule, lots, demand in small_inputs():
            least = least_shortage(lots, demand)
            total = shortages(rule, lots, demand)[0]
            if rule == 0:
                self.assertEqual(total, least, (lots, demand))
            else:
                self.assertGreaterEqual(total, least, (lots, demand))

    def test_shortage_of_rule_0_is_the_least_of_all_ways_and_the_greatest_proof(self):
        for lots, demand in inputs_to_try_out():
            least = least_shortage(lots, demand)
            self.assertEqual(shortages(0, lots, demand)[0], least, (lots, demand))
            self.assertEqual(best_proof(lots, demand)[0], least, (lots, demand))
            proven = [proven_shortage(mask, lots, demand)[0] for mask in range(2 ** len(demand))]
            self.assertEqual(max(proven), least, (lots, demand))

    def test_one_more_unit_saves_1_or_nothing(self):
        for inputs in (small_inputs(), varied_inputs()):
            for _, lots, demand in inputs:
                saved = [shortage_saved(index, lots, demand) for index in range(len(lots) // 3)]
                self.assertTrue(all(answer in ([0], [1]) for answer in saved), (lots, demand))

    def test_greatest_proof_is_the_shortage_of_rule_0_and_no_more_than_that_of_rule_1(self):
        for inputs in (small_inputs(), varied_inputs()):
            for _, lots, demand in inputs:
                proven = best_proof(lots, demand)[0]
                self.assertEqual(proven, shortages(0, lots, demand)[0], (lots, demand))
                self.assertLessEqual(proven, shortages(1, lots, demand)[0], (lots, demand))

    def test_what_rule_0_issues_is_a_plan_that_leaves_no_more_than_is_proven(self):
        for inputs in (small_inputs(), varied_inputs()):
            for _, lots, demand in inputs:
                shortage, mask = best_proof(lots, demand)
                self.assertEqual(proven_shortage(mask, lots, demand), [shortage], (lots, demand))
                table = table_of_issuing(0, lots, demand)
                self.assertEqual(check_plan(lots, demand, table), [1, shortage], (lots, demand))

    def test_issued_and_remaining_add_up_to_all_amounts(self):
        for inputs in (small_inputs(), varied_inputs()):
            for rule, lots, demand in inputs:
                issued = sum(demand) - shortages(rule, lots, demand)[0]
                left = remaining(rule, lots, demand)[1:]
                self.assertEqual(issued + sum(left), sum(lots[2::3]), (rule, lots, demand))

    def test_issued_and_remaining_of_each_lot_add_up_to_its_amount(self):
        for inputs in (small_inputs(), varied_inputs()):
            for rule, lots, demand in inputs:
                added = remaining(rule, lots, demand)[1:]
                for week in range(len(demand)):
                    taken = issued_in_week(rule, week, lots, demand)[1:]
                    added = [kept + amount for kept, amount in zip(added, taken, strict=True)]
                self.assertEqual(added, lots[2::3], (rule, lots, demand))

    def test_issued_and_shortage_of_each_week_add_up_to_its_demand(self):
        for inputs in (small_inputs(), varied_inputs()):
            for rule, lots, demand in inputs:
                unmet = shortages(rule, lots, demand)[1:]
                added = [sum(issued_in_week(rule, week, lots, demand)[1:]) + unmet[week] for week in range(len(demand))]
                self.assertEqual(added, demand, (rule, lots, demand))

    def test_no_shortage_exceeds_its_demand_and_no_remainder_its_lot(self):
        for rule, lots, demand in varied_inputs():
            unmet = shortages(rule, lots, demand)
            left = remaining(rule, lots, demand)
            self.assertEqual(unmet[0], sum(unmet[1:]))
            self.assertTrue(all(0 <= short <= wanted for short, wanted in zip(unmet[1:], demand)))
            self.assertTrue(all(0 <= kept <= row[2] for kept, row in zip(left[1:], rows_of(lots))))


if __name__ == "__main__":
    unittest.main()
