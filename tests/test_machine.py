"""Point 6: cells, boxes, holding, trace and find_cycle."""

import inspect
import unittest

from shelfbots import machine
from shelfbots.machine import boxes, cells, find_cycle, holding, trace
from tests.helpers import (
    EXAMPLE, FAR_TOO_LONG, JUST_IN_TIME, JUST_TOO_LONG, LAST_TICK, LATE_STANDSTILL, NOT_INTEGERS_NOT_STRINGS,
    NOT_TICKS, TOO_LATE_STANDSTILL, fault_of, plan_of,
)

# Robot 0 needs 3 ticks for its steps, robot 1 needs 4, and nothing blocks them.
THREE_AND_FOUR = plan_of("1 0 0 0 2", (0, "pick; put; wait;"), (4, "left; right; pick; put;"))
# Robot 0 moves three boxes and is blocked then, robot 1 goes on.
THREE_BOXES = plan_of("3 0 0 0", (0, "pick; right; put; left;"), (2, "right; left;"))


def all_of(plan, first, last):
    return list(trace(plan, first, last))


class AfterATick(unittest.TestCase):

    def test_examples(self):
        self.assertEqual(cells(EXAMPLE, 1), (1, 2))
        self.assertEqual(boxes(EXAMPLE, 2), [0, 1, 0])
        self.assertEqual(holding(EXAMPLE, 1), [0])

    def test_first_ticks(self):
        self.assertEqual([cells(EXAMPLE, tick) for tick in range(6)],
                         [(0, 2), (1, 2), (1, 2), (0, 2), (0, 2), (0, 2)])
        self.assertEqual([boxes(EXAMPLE, tick) for tick in range(6)],
                         [[0, 0, 0], [0, 0, 0], [0, 1, 0], [0, 1, 0], [0, 1, 0], [0, 1, 0]])
        self.assertEqual([holding(EXAMPLE, tick) for tick in range(6)], [[0], [0], [], [], [], []])

    def test_ticks_of_a_cycle(self):
        for tick in [*range(40), *range(LAST_TICK - 30, LAST_TICK + 1)]:
            with self.subTest(tick=tick):
                self.assertEqual(cells(THREE_AND_FOUR, tick), (0, (3, 4, 4, 4)[tick % 4]))
                self.assertEqual(boxes(THREE_AND_FOUR, tick),
                                 [(0, 1, 1)[tick % 3], 0, 0, 0, (2, 2, 1, 2)[tick % 4]])
                self.assertEqual(holding(THREE_AND_FOUR, tick),
                                 [0] * (tick % 3 == 0) + [1] * (tick % 4 == 2))

    def test_ticks_behind_a_long_beginning(self):
        # Twelve steps move the boxes; the pick of tick 12 is blocked, and so are all later ones.
        for tick in (12, 13, 14, 15, 1000, LAST_TICK - 1, LAST_TICK):
            with self.subTest(tick=tick):
                self.assertEqual(cells(THREE_BOXES, tick), (0, 3 - tick % 2))
                self.assertEqual(boxes(THREE_BOXES, tick), [0, 3, 0, 0])
                self.assertEqual(holding(THREE_BOXES, tick), [])
        self.assertEqual([boxes(THREE_BOXES, tick)[0] for tick in range(0, 13, 4)], [2, 1, 0, 0])

    def test_last_tick(self):
        self.assertEqual(cells(EXAMPLE, LAST_TICK), (0, 2))
        self.assertEqual(boxes(EXAMPLE, LAST_TICK), [0, 1, 0])
        self.assertEqual(holding(EXAMPLE, LAST_TICK), [])

    def test_holding_is_ascending(self):
        plan = plan_of("1 0 1", (2, "wait; pick; put; wait;"), (0, "pick; wait; wait; put;"))
        self.assertEqual([holding(plan, tick) for tick in range(4)], [[1], [0, 1], [1], []])

    def test_kinds_of_results(self):
        self.assertIs(type(cells(EXAMPLE, 0)), tuple)
        self.assertEqual([type(cell) for cell in cells(EXAMPLE, 0)], [int, int])
        self.assertIs(type(boxes(EXAMPLE, 0)), list)
        self.assertEqual([type(number) for number in boxes(EXAMPLE, 0)], [int, int, int])
        self.assertIs(type(holding(EXAMPLE, 0)), list)
        self.assertEqual([type(robot) for robot in holding(EXAMPLE, 0)], [int])

    def test_invalid_ticks(self):
        for tick in NOT_TICKS:
            for function in (cells, boxes, holding):
                with self.subTest(tick=tick, function=function.__name__):
                    self.assertEqual(fault_of(function, EXAMPLE, tick), ("InvalidTick",))


class Trace(unittest.TestCase):

    def test_example(self):
        self.assertEqual(all_of(EXAMPLE, 3, 4), [(3, "left", "wait"), (4, "blocked", "wait")])

    def test_from_tick_0(self):
        self.assertEqual(all_of(EXAMPLE, 0, 5), [
            (0, "pick", "wait"), (1, "right", "wait"), (2, "put", "wait"), (3, "left", "wait"),
            (4, "blocked", "wait"), (5, "blocked", "wait")])

    def test_one_tick(self):
        self.assertEqual(all_of(EXAMPLE, 2, 2), [(2, "put", "wait")])
        self.assertEqual(all_of(EXAMPLE, LAST_TICK, LAST_TICK), [(LAST_TICK, "blocked", "wait")])

    def test_no_tick(self):
        for first in (0, 1, 7, LAST_TICK):
            with self.subTest(first=first):
                self.assertEqual(all_of(EXAMPLE, first, first - 1), [])

    def test_most_ticks(self):
        for first in (0, 1, 12345, LAST_TICK - 499):
            with self.subTest(first=first):
                ticks = range(first, first + 500)
                self.assertEqual(all_of(THREE_AND_FOUR, first, first + 499),
                                 [(tick, ("pick", "put", "wait")[tick % 3], ("left", "right", "pick", "put")[tick % 4])
                                  for tick in ticks])

    def test_each_word(self):
        plan = plan_of("2 0 0", (0, "pick; a: held b; wait; b: put; empty c; c: goto d; d: right; left; left;"),
                       (2, "wait;"))
        self.assertEqual([row[1] for row in all_of(plan, 0, 8)],
                         ["pick", "held", "put", "empty", "goto", "right", "left", "blocked", "blocked"])

    def test_kinds_of_results(self):
        row = all_of(EXAMPLE, 0, 0)[0]
        self.assertEqual((type(row), [type(part) for part in row]), (tuple, [int, str, str]))

    def test_invalid_first_tick(self):
        for tick in NOT_TICKS:
            with self.subTest(tick=tick):
                self.assertEqual(fault_of(all_of, EXAMPLE, tick, 0), ("InvalidTick",))
                self.assertEqual(fault_of(all_of, EXAMPLE, tick, tick), ("InvalidTick",))

    def test_invalid_last_tick(self):
        for first in (0, 1, 2, 700, LAST_TICK - 1, LAST_TICK):
            for last in (first - 2, first - 3, first + 500, first + 501, LAST_TICK + 1, LAST_TICK + 2, -2, "0",
                         *NOT_INTEGERS_NOT_STRINGS):
                with self.subTest(first=first, last=last):
                    self.assertEqual(fault_of(all_of, EXAMPLE, first, last), ("InvalidTick",))

    def test_last_tick_is_limited_near_the_end(self):
        self.assertEqual(len(all_of(EXAMPLE, LAST_TICK - 498, LAST_TICK)), 499)
        self.assertEqual(fault_of(all_of, EXAMPLE, LAST_TICK - 498, LAST_TICK + 1), ("InvalidTick",))

    def test_is_a_generator(self):
        self.assertTrue(inspect.isgenerator(trace(EXAMPLE, 0, 0)))
        self.assertTrue(inspect.isgeneratorfunction(trace))

    def test_errors_are_raised_when_the_first_tuple_is_asked_for(self):
        for arguments, name in (
            (("?", 0, 0), "SyntaxFault"), ((plan_of("0 0", (0, "wait;"), (1, "wait;")), 0, 0), "CheckFault"),
            ((EXAMPLE, -1, 0), "InvalidTick"), ((EXAMPLE, 0, 500), "InvalidTick"),
            ((EXAMPLE, 5, 3), "InvalidTick"), ((JUST_TOO_LONG, 0, 0), "TooLong"),
            # Even if there is no tick, something is asked for.
            ((JUST_TOO_LONG, 0, -1), "TooLong"), (("", 0, -1), "SyntaxFault"),
        ):
            with self.subTest(arguments=arguments):
                generator = trace(*arguments)
                self.assertEqual(fault_of(next, generator)[0], name)

    def test_generators_do_not_disturb_each_other(self):
        first, second = trace(EXAMPLE, 0, 3), trace(THREE_AND_FOUR, 0, 3)
        self.assertEqual([(a[1], b[1]) for a, b in zip(first, second)],
                         [("pick", "pick"), ("right", "put"), ("put", "wait"), ("left", "pick")])


class FindCycle(unittest.TestCase):

    def test_example(self):
        self.assertEqual(find_cycle(EXAMPLE), (4, 1))

    def test_from_tick_0_on(self):
        for plan, length in (
            (plan_of("0 0 0", (0, "wait;"), (2, "wait;")), 1),
            (plan_of("0 0 0", (0, "left;"), (2, "right;")), 1),
            (plan_of("0 0 0", (0, "wait; wait;"), (2, "wait; wait; wait;")), 6),
            (plan_of("0 0 0", (0, "wait;"), (2, "wait; wait; wait; wait; wait;")), 5),
            (plan_of("0 0 0", (0, "wait;" * 19), (2, "wait;" * 20)), 380),
            (THREE_AND_FOUR, 12),
        ):
            with self.subTest(plan=plan):
                self.assertEqual(find_cycle(plan), (0, length))

    def test_behind_a_beginning(self):
        for plan, cycle in (
            (plan_of("0 0 0", (0, "wait; a: wait; goto a;"), (2, "wait;")), (1, 2)),
            (plan_of("0 0 0", (0, "wait; wait; wait; a: goto a;"), (2, "wait; wait;")), (3, 2)),
            (plan_of("0 0 0 0", (0, "right;"), (3, "wait;")), (2, 1)),
            (THREE_BOXES, (12, 2)),
        ):
            with self.subTest(plan=plan):
                self.assertEqual(find_cycle(plan), cycle)

    def test_cells_count(self):
        self.assertEqual(find_cycle(plan_of("0 0 0 0", (2, "left;"), (3, "wait;"))), (2, 1))

    def test_next_steps_count(self):
        self.assertEqual(find_cycle(plan_of("0 0 0", (0, "wait; a: wait; wait; goto a;"), (2, "wait;"))), (1, 3))

    def test_boxes_count(self):
        # The robot comes back with empty hands to its first cell and step, but there are fewer boxes.
        self.assertEqual(find_cycle(plan_of("3 0 0", (0, "pick; right; put; left;"), (2, "wait;"))), (12, 1))

    def test_robots_that_hold_boxes_count(self):
        # Before the ticks 1 and 8 only this differs: robot 0 holds the box first, and robot 1 does in the end.
        plan = plan_of("0 1 0", (1, "pick; b: put; left; right; goto b;"), (2, "wait; left; empty d; d: pick; right;"))
        self.assertEqual(find_cycle(plan), (8, 1))
        self.assertEqual((cells(plan, 0), boxes(plan, 0), holding(plan, 0)), ((1, 2), [0, 0, 0], [0]))
        self.assertEqual((cells(plan, 7), boxes(plan, 7), holding(plan, 7)), ((1, 2), [0, 0, 0], [1]))

    def test_kind_of_result(self):
        result = find_cycle(EXAMPLE)
        self.assertEqual((type(result), [type(part) for part in result]), (tuple, [int, int]))

    def test_late_repeats(self):
        self.assertEqual(find_cycle(JUST_IN_TIME), (32, 19968))
        self.assertEqual(find_cycle(LATE_STANDSTILL), (19999, 1))


class TooLong(unittest.TestCase):

    def test_each_function(self):
        for plan in (JUST_TOO_LONG, TOO_LATE_STANDSTILL, FAR_TOO_LONG):
            with self.subTest(plan=plan):
                self.assertEqual(fault_of(find_cycle, plan), ("TooLong",))
                for function in (cells, boxes, holding):
                    self.assertEqual(fault_of(function, plan, 0), ("TooLong",))
                self.assertEqual(fault_of(all_of, plan, 0, 0), ("TooLong",))

    def test_just_in_time(self):
        for plan in (JUST_IN_TIME, LATE_STANDSTILL):
            with self.subTest(plan=plan):
                for function in (cells, boxes, holding):
                    self.assertIsNone(fault_of(function, plan, LAST_TICK))
                self.assertIsNone(fault_of(all_of, plan, LAST_TICK, LAST_TICK))

    def test_ticks_of_a_long_cycle(self):
        for tick in (32, 33, 5000, 19999):
            with self.subTest(tick=tick):
                later = tick + 19968 * 50_000_000_000_000
                for function in (cells, boxes, holding):
                    self.assertEqual(function(JUST_IN_TIME, tick), function(JUST_IN_TIME, later))
                self.assertEqual([row[1:] for row in all_of(JUST_IN_TIME, tick, tick + 99)],
                                 [row[1:] for row in all_of(JUST_IN_TIME, later, later + 99)])


class OrderOfErrors(unittest.TestCase):

    def test_plan_before_tick(self):
        two_cells = plan_of("0 0", (0, "wait;"), (1, "wait;"))
        for function in (cells, boxes, holding):
            self.assertEqual(fault_of(function, "shelf ?", -1), ("SyntaxFault", 0, 6))
            self.assertEqual(fault_of(function, None, None), ("SyntaxFault", 0, 0))
            self.assertEqual(fault_of(function, two_cells, -1), ("CheckFault", "cells", 0, 0))
        self.assertEqual(fault_of(all_of, "shelf ?", -1, True), ("SyntaxFault", 0, 6))
        self.assertEqual(fault_of(all_of, two_cells, 5, 1), ("CheckFault", "cells", 0, 0))

    def test_tick_before_too_long(self):
        for function in (cells, boxes, holding):
            self.assertEqual(fault_of(function, JUST_TOO_LONG, LAST_TICK + 1), ("InvalidTick",))
        self.assertEqual(fault_of(all_of, JUST_TOO_LONG, True, 0), ("InvalidTick",))
        self.assertEqual(fault_of(all_of, JUST_TOO_LONG, 0, 500), ("InvalidTick",))


class Interface(unittest.TestCase):

    def test_names_and_arguments(self):
        for name, arguments in (("cells", ["plan", "tick"]), ("boxes", ["plan", "tick"]),
                                ("holding", ["plan", "tick"]), ("trace", ["plan", "first", "last"]),
                                ("find_cycle", ["plan"])):
            with self.subTest(name=name):
                function = getattr(machine, name)
                self.assertEqual(function.__module__, "shelfbots.machine")
                self.assertEqual(list(inspect.signature(function).parameters), arguments)


if __name__ == "__main__":
    unittest.main()
