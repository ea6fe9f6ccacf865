"""Point 1: what holds for every function."""

import copy
import unittest

from shelfbots.comparison import first_difference, first_error
from shelfbots.encoding import decode, encode
from shelfbots.formatter import count_steps, format_plan
from shelfbots.locks import count_blocked, count_done, lock_tick, stuck_from, stuck_robots, unused_steps
from shelfbots.machine import boxes, cells, find_cycle, holding, trace
from shelfbots.planning import free_starts, plan_waits
from shelfbots.stage import Stage
from shelfbots.watching import Camera
from tests.helpers import EXAMPLE, NOT_INTEGERS_NOT_STRINGS, error_of, fault_of, plan_of

BOTH_HOLD = plan_of("1 2 3", (0, "pick; wait;"), (2, "pick; wait;"))


def all_of(plan, first, last):
    return list(trace(plan, first, last))


ON_PLANS = (format_plan, count_steps, find_cycle, lock_tick, stuck_robots, free_starts, encode)
ON_TICKS = (cells, boxes, holding)
ON_ROBOTS = (stuck_from, unused_steps)
# Both robots are stuck by this plan, unless robot 1 waits first.
FACE_TO_FACE = plan_of("0 0 0 0", (0, "right; right; left; left; a: wait;"), (3, "left; left; right; right; a: wait;"))


class TrueAndFalse(unittest.TestCase):

    def test_are_no_plans(self):
        for value in (True, False):
            for function in ON_PLANS:
                self.assertEqual(fault_of(function, value), ("SyntaxFault", 0, 0))
            for function in ON_TICKS:
                self.assertEqual(fault_of(function, value, 0), ("SyntaxFault", 0, 0))
            self.assertEqual(fault_of(all_of, value, 0, 0), ("SyntaxFault", 0, 0))
            for function in ON_ROBOTS:
                self.assertEqual(fault_of(function, value, 0), ("SyntaxFault", 0, 0))
            self.assertEqual(fault_of(count_blocked, value, 0, 0), ("SyntaxFault", 0, 0))
            self.assertEqual(fault_of(count_done, value, 0, "wait", 0), ("SyntaxFault", 0, 0))
            self.assertEqual(fault_of(plan_waits, value, 0), ("SyntaxFault", 0, 0))
            self.assertEqual(fault_of(first_difference, value, EXAMPLE), ("SyntaxFault", 0, 0))
            self.assertEqual(fault_of(first_difference, EXAMPLE, value), ("SyntaxFault", 0, 0))
            self.assertEqual(fault_of(first_error, value, []), ("SyntaxFault", 0, 0))
            self.assertEqual(fault_of(Camera, value, 0), ("SyntaxFault", 0, 0))
            self.assertEqual(fault_of(Stage, value), ("SyntaxFault", 0, 0))
            self.assertEqual(fault_of(Stage.replay, value, []), ("SyntaxFault", 0, 0))

    def test_are_no_ticks(self):
        for value in (True, False):
            for function in ON_TICKS:
                self.assertEqual(fault_of(function, EXAMPLE, value), ("InvalidTick",))
            self.assertEqual(fault_of(all_of, EXAMPLE, value, 1), ("InvalidTick",))
            self.assertEqual(fault_of(all_of, EXAMPLE, 0, value), ("InvalidTick",))
            self.assertEqual(fault_of(all_of, EXAMPLE, 1, value), ("InvalidTick",))
            self.assertEqual(fault_of(count_blocked, EXAMPLE, 1, value), ("InvalidTick",))
            self.assertEqual(fault_of(count_done, EXAMPLE, 1, "wait", value), ("InvalidTick",))
            self.assertEqual(fault_of(Camera(EXAMPLE, 0).see, value, True), ("InvalidTick",))
            self.assertEqual(fault_of(Camera(EXAMPLE, 0).see_from, value, True), ("InvalidTick",))
            self.assertEqual(fault_of(Camera(EXAMPLE, 0).possible, value), ("InvalidTick",))

    def test_are_no_numbers(self):
        for value in (True, False):
            for function in ON_ROBOTS:
                self.assertEqual(fault_of(function, EXAMPLE, value), ("InvalidNumber",))
            self.assertEqual(fault_of(count_blocked, EXAMPLE, value, 0), ("InvalidNumber",))
            self.assertEqual(fault_of(count_done, EXAMPLE, value, "wait", 0), ("InvalidNumber",))
            self.assertEqual(fault_of(plan_waits, EXAMPLE, value), ("InvalidNumber",))
            self.assertEqual(fault_of(Camera, EXAMPLE, value), ("InvalidNumber",))
            stage = Stage("shelf 1 1 1; robot 0 { wait; wait; } robot 1 { wait; wait; }")
            for method in (stage.step, stage.add, stage.take):
                self.assertEqual(fault_of(method, value), ("InvalidNumber",))
            self.assertEqual(fault_of(stage.jump, value, 0), ("InvalidNumber",))
            self.assertEqual(fault_of(stage.jump, 0, value), ("InvalidNumber",))
            self.assertEqual(stage.operations, [])

    def test_are_no_logs(self):
        for value in (True, False):
            self.assertEqual(first_error(EXAMPLE, value), 0)
            self.assertEqual(first_error(EXAMPLE, [("pick", "wait"), value]), 1)

    def test_are_no_bytes_names_and_operations(self):
        for value in (True, False):
            self.assertEqual(fault_of(decode, value), ("InvalidCode", 0))
            self.assertEqual(fault_of(decode, [83, 3, value]), ("InvalidCode", 2))
            stage = Stage(EXAMPLE)
            self.assertEqual(fault_of(stage.save, value), ("InvalidName",))
            self.assertEqual(fault_of(stage.restore, value), ("UnknownName",))
            self.assertEqual(fault_of(stage.batch, value), ("InvalidOperation", 0))
            self.assertEqual(fault_of(stage.batch, [("undo",), value]), ("InvalidOperation", 1))
            self.assertEqual(fault_of(stage.batch, [("step", value)]), ("InvalidNumber",))


class Arguments(unittest.TestCase):

    def test_are_never_modified(self):
        for value in NOT_INTEGERS_NOT_STRINGS:
            before = copy.deepcopy(value)
            for function in ON_PLANS:
                self.assertIsNotNone(error_of(function, value))
            for function in ON_TICKS:
                self.assertIsNotNone(error_of(function, value, value))
                self.assertIsNotNone(error_of(function, EXAMPLE, value))
            self.assertIsNotNone(error_of(all_of, EXAMPLE, value, value))
            self.assertIsNotNone(error_of(all_of, EXAMPLE, 0, value))
            for function in ON_ROBOTS:
                self.assertIsNotNone(error_of(function, value, value))
                self.assertIsNotNone(error_of(function, EXAMPLE, value))
            self.assertIsNotNone(error_of(count_blocked, EXAMPLE, value, value))
            self.assertIsNotNone(error_of(count_done, EXAMPLE, 0, "wait", value))
            self.assertIsNotNone(error_of(plan_waits, EXAMPLE, value))
            self.assertIsNotNone(error_of(first_difference, EXAMPLE, value))
            first_error(EXAMPLE, value)
            first_error(EXAMPLE, [("pick", "wait"), value])
            for function in (decode, Stage, Camera(EXAMPLE, 0).possible, Stage(EXAMPLE).step, Stage(EXAMPLE).add,
                             Stage(EXAMPLE).take, Stage(EXAMPLE).save, Stage(EXAMPLE).restore):
                self.assertIsNotNone(error_of(function, value))
            for function in (Camera, Camera(EXAMPLE, 0).see, Stage(EXAMPLE).jump, Stage.replay):
                self.assertIsNotNone(error_of(function, value, value))
            self.assertIsNotNone(error_of(Camera, EXAMPLE, value))
            error_of(Stage(EXAMPLE).batch, value)
            self.assertEqual((type(value), value), (type(before), before))

    def test_are_passed_by_name_too(self):
        self.assertEqual(format_plan(plan=EXAMPLE), format_plan(EXAMPLE))
        self.assertEqual(count_steps(plan=EXAMPLE), (4, 1))
        self.assertEqual(find_cycle(plan=EXAMPLE), (4, 1))
        self.assertEqual(cells(tick=1, plan=EXAMPLE), (1, 2))
        self.assertEqual(boxes(tick=2, plan=EXAMPLE), [0, 1, 0])
        self.assertEqual(holding(tick=1, plan=EXAMPLE), [0])
        self.assertEqual(list(trace(last=0, first=0, plan=EXAMPLE)), [(0, "pick", "wait")])
        self.assertIsNone(lock_tick(plan=EXAMPLE))
        self.assertEqual(stuck_robots(plan=EXAMPLE), [0])
        self.assertEqual(stuck_from(number=0, plan=EXAMPLE), 4)
        self.assertEqual(count_blocked(ticks=10, number=0, plan=EXAMPLE), 6)
        self.assertEqual(count_done(ticks=10, word="pick", number=0, plan=EXAMPLE), 1)
        self.assertEqual(unused_steps(number=0, plan=EXAMPLE), [])
        self.assertEqual(plan_waits(limit=1, plan=FACE_TO_FACE)[0], [(1, 0)])
        self.assertEqual(free_starts(plan=EXAMPLE), [])
        self.assertIsNone(first_difference(other=EXAMPLE, plan=EXAMPLE))
        self.assertEqual(first_error(log=[("pick", "wait"), ("left", "wait")], plan=EXAMPLE), 1)
        self.assertEqual(decode(code=encode(plan=EXAMPLE)), format_plan(EXAMPLE))
        camera = Camera(cell=1, plan=EXAMPLE)
        self.assertEqual(camera.see(is_there=False, tick=0), 2)
        self.assertEqual(camera.see_from(first=0), 2)
        self.assertEqual(camera.possible(tick=0), [0, 2])
        stage = Stage(plan=EXAMPLE)
        self.assertEqual(stage.step(count=1), [("pick", "wait")])
        self.assertEqual((stage.add(cell=1), stage.take(cell=1), stage.jump(step=0, number=0)), (1, 0, 1))
        stage.save(name="a")
        stage.restore(name="a")
        self.assertEqual(stage.batch(operations=[("undo",)]), [True])
        self.assertEqual(Stage.replay(operations=[("step", 1)], plan=EXAMPLE).passed, 1)


class Results(unittest.TestCase):

    def test_lists_are_new(self):
        for function, arguments, expected in (
            (boxes, (BOTH_HOLD, 5), [0, 2, 2]),
            (holding, (BOTH_HOLD, 5), [0, 1]),
            (stuck_robots, (FACE_TO_FACE,), [0, 1]),
            (unused_steps, (FACE_TO_FACE, 1), [1, 2, 3, 4]),
            (lambda plan, limit: plan_waits(plan, limit)[0], (FACE_TO_FACE, 1), [(1, 0)]),
            (free_starts, ("shelf 0 0 0; robot 0 { wait; } robot 1 { right; left; }",), [(0, 1), (2, 0)]),
        ):
            with self.subTest(function=function.__name__):
                first = function(*arguments)
                second = function(*arguments)
                self.assertIsNot(first, second)
                first.append(9)
                first[0] = 7
                self.assertEqual(second, expected)
                second.clear()
                self.assertEqual(function(*arguments), expected)

    def test_repeated_calls_give_equal_results(self):
        def results():
            return [
                [function(plan) for function in ON_PLANS for plan in (EXAMPLE, BOTH_HOLD)],
                [function(plan, tick) for function in ON_TICKS for plan in (EXAMPLE, BOTH_HOLD)
                 for tick in (0, 3, 10 ** 18)],
                [all_of(plan, 0, 9) for plan in (EXAMPLE, BOTH_HOLD)],
                [fault_of(function, text) for function in ON_PLANS for text in ("", "shelf ?", None)],
                [function(plan, number) for function in ON_ROBOTS for plan in (EXAMPLE, BOTH_HOLD)
                 for number in (0, 1)],
                [count_blocked(plan, 1, 77) for plan in (EXAMPLE, BOTH_HOLD)],
                [count_done(plan, 0, "pick", 77) for plan in (EXAMPLE, BOTH_HOLD)],
                [plan_waits(plan, 1) for plan in (EXAMPLE, BOTH_HOLD, FACE_TO_FACE)],
                [first_difference(plan, EXAMPLE) for plan in (EXAMPLE, BOTH_HOLD)],
                [first_error(plan, [("pick", "wait"), ("right", "wait")]) for plan in (EXAMPLE, BOTH_HOLD)],
                [fault_of(function, EXAMPLE, -1) for function in ON_TICKS + ON_ROBOTS],
            ]
        first = results()
        self.assertEqual(results(), first)
        self.assertEqual(results(), first)

    def test_a_call_that_raises_changes_nothing(self):
        before = [function(EXAMPLE) for function in ON_PLANS]
        for function in ON_PLANS:
            self.assertIsNotNone(error_of(function, EXAMPLE + "?"))
        for function in ON_TICKS:
            self.assertIsNotNone(error_of(function, EXAMPLE, -1))
        for function in ON_ROBOTS:
            self.assertIsNotNone(error_of(function, EXAMPLE, 2))
        self.assertEqual([function(EXAMPLE) for function in ON_PLANS], before)


class OrderOfChecks(unittest.TestCase):

    def test_from_left_to_right(self):
        for plan in (None, True, 3, "", "shelf"):
            for tick in (None, True, -1, "0"):
                for function in ON_TICKS:
                    self.assertEqual(fault_of(function, plan, tick)[0], "SyntaxFault")
                for function in ON_ROBOTS:
                    self.assertEqual(fault_of(function, plan, tick)[0], "SyntaxFault")
                self.assertEqual(fault_of(all_of, plan, tick, tick)[0], "SyntaxFault")
                self.assertEqual(fault_of(count_done, plan, tick, "wait", tick)[0], "SyntaxFault")
                self.assertEqual(fault_of(plan_waits, plan, tick)[0], "SyntaxFault")
                self.assertEqual(fault_of(first_difference, plan, tick)[0], "SyntaxFault")
                self.assertEqual(fault_of(Camera, plan, tick)[0], "SyntaxFault")
                self.assertEqual(fault_of(Stage.replay, plan, tick)[0], "SyntaxFault")
        for number in (None, True, -1, "0"):
            for ticks in (None, True, -1, "0"):
                self.assertEqual(fault_of(count_blocked, EXAMPLE, number, ticks), ("InvalidNumber",))
                self.assertEqual(fault_of(count_done, EXAMPLE, number, "wait", ticks), ("InvalidNumber",))
        # A first tick that is none is reported, although it cannot be compared with the last one.
        for first in (None, "a", [], (1,)):
            self.assertEqual(fault_of(all_of, EXAMPLE, first, 3), ("InvalidTick",))

    def test_grammar_before_the_checks(self):
        for function in ON_PLANS:
            self.assertEqual(fault_of(function, "shelf 9; robot 0 { wait; } robot 0 { wait; } }"),
                             ("SyntaxFault", 0, 45))


if __name__ == "__main__":
    unittest.main()
