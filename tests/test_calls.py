"""Point 1: what holds for every function."""

import copy
import unittest

from shelfbots.formatter import count_steps, format_plan
from shelfbots.machine import boxes, cells, find_cycle, holding, trace
from tests.helpers import EXAMPLE, NOT_INTEGERS_NOT_STRINGS, error_of, fault_of, plan_of

BOTH_HOLD = plan_of("1 2 3", (0, "pick; wait;"), (2, "pick; wait;"))


def all_of(plan, first, last):
    return list(trace(plan, first, last))


ON_PLANS = (format_plan, count_steps, find_cycle)
ON_TICKS = (cells, boxes, holding)


class TrueAndFalse(unittest.TestCase):

    def test_are_no_plans(self):
        for value in (True, False):
            for function in ON_PLANS:
                self.assertEqual(fault_of(function, value), ("SyntaxFault", 0, 0))
            for function in ON_TICKS:
                self.assertEqual(fault_of(function, value, 0), ("SyntaxFault", 0, 0))
            self.assertEqual(fault_of(all_of, value, 0, 0), ("SyntaxFault", 0, 0))

    def test_are_no_ticks(self):
        for value in (True, False):
            for function in ON_TICKS:
                self.assertEqual(fault_of(function, EXAMPLE, value), ("InvalidTick",))
            self.assertEqual(fault_of(all_of, EXAMPLE, value, 1), ("InvalidTick",))
            self.assertEqual(fault_of(all_of, EXAMPLE, 0, value), ("InvalidTick",))
            self.assertEqual(fault_of(all_of, EXAMPLE, 1, value), ("InvalidTick",))


class Arguments(unittest.TestCase):

    def test_are_never_modified(self):
        for value in NOT_INTEGERS_NOT_STRINGS:
            before = copy.deepcopy(value)
            for function in ON_PLANS:
                self.assertIsNotNone(error_of(function, value))
            for function in ON_TICKS:
                self.assertIsNotNone(error_of(function, value, value))
                self.assertIsNotNone(error_of(function, EXAMPLE, value))
            self.assertIsNotNone(error_of(all_of, EXAMPLE, value, value))
            self.assertIsNotNone(error_of(all_of, EXAMPLE, 0, value))
            self.assertEqual((type(value), value), (type(before), before))

    def test_are_passed_by_name_too(self):
        self.assertEqual(format_plan(plan=EXAMPLE), format_plan(EXAMPLE))
        self.assertEqual(count_steps(plan=EXAMPLE), (4, 1))
        self.assertEqual(find_cycle(plan=EXAMPLE), (4, 1))
        self.assertEqual(cells(tick=1, plan=EXAMPLE), (1, 2))
        self.assertEqual(boxes(tick=2, plan=EXAMPLE), [0, 1, 0])
        self.assertEqual(holding(tick=1, plan=EXAMPLE), [0])
        self.assertEqual(list(trace(last=0, first=0, plan=EXAMPLE)), [(0, "pick", "wait")])


class Results(unittest.TestCase):

    def test_lists_are_new(self):
        for function, expected in ((boxes, [0, 2, 2]), (holding, [0, 1])):
            with self.subTest(function=function.__name__):
                first = function(BOTH_HOLD, 5)
                second = function(BOTH_HOLD, 5)
                self.assertIsNot(first, second)
                first.append(9)
                first[0] = 7
                self.assertEqual(second, expected)
                second.clear()
                self.assertEqual(function(BOTH_HOLD, 5), expected)

    def test_repeated_calls_give_equal_results(self):
        def results():
            return [
                [function(plan) for function in ON_PLANS for plan in (EXAMPLE, BOTH_HOLD)],
                [function(plan, tick) for function in ON_TICKS for plan in (EXAMPLE, BOTH_HOLD)
                 for tick in (0, 3, 10 ** 18)],
                [all_of(plan, 0, 9) for plan in (EXAMPLE, BOTH_HOLD)],
                [fault_of(function, text) for function in ON_PLANS for text in ("", "shelf ?", None)],
                [fault_of(function, EXAMPLE, -1) for function in ON_TICKS],
            ]
        first = results()
        self.assertEqual(results(), first)
        self.assertEqual(results(), first)

    def test_a_call_that_raises_changes_nothing(self):
        before = [function(EXAMPLE) for function in ON_PLANS]
        for function in ON_PLANS:
            self.assertIsNotNone(error_of(function, EXAMPLE + "?"))
        for function in ON_TICKS:
            self.assertIsNotNone(error_of(function, EXAMPLE, -1))
        self.assertEqual([function(EXAMPLE) for function in ON_PLANS], before)


class OrderOfChecks(unittest.TestCase):

    def test_from_left_to_right(self):
        for plan in (None, True, 3, "", "shelf"):
            for tick in (None, True, -1, "0"):
                for function in ON_TICKS:
                    self.assertEqual(fault_of(function, plan, tick)[0], "SyntaxFault")
                self.assertEqual(fault_of(all_of, plan, tick, tick)[0], "SyntaxFault")
        # A first tick that is none is reported, although it cannot be compared with the last one.
        for first in (None, "a", [], (1,)):
            self.assertEqual(fault_of(all_of, EXAMPLE, first, 3), ("InvalidTick",))

    def test_grammar_before_the_checks(self):
        for function in ON_PLANS:
            self.assertEqual(fault_of(function, "shelf 9; robot 0 { wait; } robot 0 { wait; } }"),
                             ("SyntaxFault", 0, 45))


if __name__ == "__main__":
    unittest.main()
