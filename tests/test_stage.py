"""Point 12: Stage, without batches."""

import inspect
import random
import unittest

from shelfbots import stage as stage_module
from shelfbots.locks import count_blocked
from shelfbots.machine import boxes, cells, holding, trace
from shelfbots.stage import Stage
from tests.helpers import (
    EXAMPLE, FAR_TOO_LONG, JUST_TOO_LONG, LAST_TICK, NOT_INTEGERS_NOT_STRINGS, NOT_ROBOTS, fault_of, outcome_of,
    plan_of, stage_row, stage_told,
)
from tests.slow import SlowStage, random_operation, random_plan, text_of

NOT_NUMBERS = (*NOT_INTEGERS_NOT_STRINGS, -1, -2, LAST_TICK, -LAST_TICK, "", "0", "1", "step")
NOT_NAMES = (*NOT_INTEGERS_NOT_STRINGS, 0, 1, -1, "", "abcdefghi", "a b", " a", "a ", "a1", "1", "A", "aB", "a_", "a-b",
             "a\n", "\n", ":", "{", "a" * 100, "\u00e4", "\u00df", ("a",), ["a"])
# Robot 0 has four steps, and robot 1 has three.
JUMPING = plan_of("1 3 0 2", (1, "a: pick; right; b: held a; goto b;"), (3, "wait; c: left; empty c;"))


def read(stage):
    """Returns all properties of a stage."""
    return (stage.passed, stage.places, stage.shelf_boxes, stage.held, stage.blocked, stage.operations)


class Beginning(unittest.TestCase):

    def test_properties(self):
        self.assertEqual(read(Stage(EXAMPLE)), (0, (0, 2), [1, 0, 0], (False, False), (0, 0), []))
        self.assertEqual(read(Stage(JUMPING)), (0, (1, 3), [1, 3, 0, 2], (False, False), (0, 0), []))

    def test_kinds(self):
        stage = Stage(EXAMPLE)
        done = stage.step(1)
        self.assertEqual((type(done), type(done[0]), [type(word) for word in done[0]]), (list, tuple, [str, str]))
        for value, kind, part in ((stage.places, tuple, int), (stage.shelf_boxes, list, int),
                                  (stage.held, tuple, bool), (stage.blocked, tuple, int),
                                  (stage.operations, list, str)):
            self.assertEqual((type(value), {type(item) for item in value}), (kind, {part}))
        self.assertEqual([type(value) for value in (stage.passed, stage.add(1), stage.take(1), stage.jump(0, 0))],
                         [int] * 4)
        self.assertEqual([type(value) for value in (stage.undo(), stage.redo())], [bool] * 2)

    def test_plans(self):
        for function in (Stage, lambda plan: Stage.replay(plan, [])):
            self.assertEqual(fault_of(function, "shelf ?"), ("SyntaxFault", 0, 6))
            for value in (*NOT_INTEGERS_NOT_STRINGS, 0, 1):
                self.assertEqual(fault_of(function, value), ("SyntaxFault", 0, 0))
            self.assertEqual(fault_of(function, "shelf 1 0 0; robot 0 { wait; } robot 0 { wait; }"),
                             ("CheckFault", "same", 0, 37))

    def test_plans_that_do_not_repeat_early(self):
        # The interface lists no TooLong for a stage.
        for plan in (JUST_TOO_LONG, FAR_TOO_LONG):
            stage = Stage(plan)
            for _ in range(50):
                self.assertEqual(len(stage.step(500)), 500)
            self.assertEqual(stage.passed, 25000)


class Step(unittest.TestCase):

    def test_examples(self):
        stage = Stage(EXAMPLE)
        self.assertEqual(stage.step(2), [("pick", "wait"), ("right", "wait")])
        self.assertEqual(read(stage), (2, (1, 2), [0, 0, 0], (True, False), (0, 0), ["step"]))
        stage = Stage(EXAMPLE)
        stage.step(1)
        self.assertEqual((stage.shelf_boxes, stage.held), ([0, 0, 0], (True, False)))
        stage = Stage(EXAMPLE)
        stage.step(6)
        self.assertEqual(stage.blocked, (2, 0))
        stage = Stage(EXAMPLE)
        stage.step(9)
        self.assertEqual(stage.passed, 9)

    def test_no_tick(self):
        stage = Stage(EXAMPLE)
        self.assertEqual(stage.step(0), [])
        self.assertEqual(read(stage), (0, (0, 2), [1, 0, 0], (False, False), (0, 0), ["step"]))
        self.assertEqual((stage.undo(), stage.operations, stage.undo()), (True, [], False))

    def test_most_ticks(self):
        stage = Stage(EXAMPLE)
        self.assertEqual(stage.step(500), [words[1:] for words in trace(EXAMPLE, 0, 499)])
        self.assertEqual(read(stage), (500, (0, 2), [0, 1, 0], (False, False), (496, 0), ["step"]))
        self.assertEqual(fault_of(stage.step, 501), ("InvalidNumber",))
        self.assertEqual(len(stage.step(500)), 500)
        self.assertEqual(stage.passed, 1000)

    def test_invalid_numbers(self):
        stage = Stage(JUMPING)
        stage.step(3)
        stage.step(1)
        stage.undo()
        before = stage_told(stage)
        for count in (*NOT_NUMBERS, 501, 502, 10 ** 30):
            self.assertEqual(fault_of(stage.step, count), ("InvalidNumber",))
            self.assertEqual(stage_told(stage), before)

    def test_in_portions_as_the_plan(self):
        for seed in range(25):
            plan = text_of(random_plan(seed))
            choice = random.Random(seed)
            stage = Stage(plan)
            while stage.passed < 120:
                start, count = stage.passed, choice.choice((0, 1, 2, 3, 10, 31))
                self.assertEqual(stage.step(count), [words[1:] for words in trace(plan, start, start + count - 1)])
                ticks = stage.passed
                self.assertEqual(ticks, start + count)
                if ticks:
                    loaded = holding(plan, ticks - 1)
                    self.assertEqual(read(stage)[1:5], (
                        cells(plan, ticks - 1), boxes(plan, ticks - 1), (0 in loaded, 1 in loaded),
                        (count_blocked(plan, 0, ticks), count_blocked(plan, 1, ticks))))
                self.change_and_change_back(stage, choice)

    def change_and_change_back(self, stage, choice):
        """Does operations that leave the stage as it was, apart from the operations in effect."""
        before = stage_row(stage)[:-1]
        cell = choice.randrange(len(stage.shelf_boxes))
        if stage.shelf_boxes[cell] < 3:
            stage.add(cell)
            stage.take(cell)
        if stage.shelf_boxes[cell] > 0:
            stage.take(cell)
            stage.add(cell)
        for robot in (0, 1):
            stage.jump(robot, stage.jump(robot, 0))
        stage.step(choice.randrange(9))
        stage.undo()
        self.assertEqual(stage_row(stage)[:-1], before)

    def test_a_blocked_robot_tries_again(self):
        stage = Stage(plan_of("0 0 0", (0, "pick; put; right;"), (2, "wait;")))
        self.assertEqual(stage.step(3), [("blocked", "wait")] * 3)
        stage.add(0)
        self.assertEqual(stage.step(2), [("pick", "wait"), ("put", "wait")])
        self.assertEqual(stage.blocked, (3, 0))


class AddAndTake(unittest.TestCase):

    def test_examples(self):
        self.assertEqual(Stage(EXAMPLE).add(1), 1)
        self.assertEqual(Stage(EXAMPLE).take(0), 0)
        self.assertEqual(fault_of(Stage(EXAMPLE).take, 1), ("CellEmpty",))

    def test_until_full_and_empty(self):
        stage = Stage(EXAMPLE)
        self.assertEqual([stage.add(1), stage.add(1), stage.add(1)], [1, 2, 3])
        before = stage_told(stage)
        for _ in range(2):
            self.assertEqual(fault_of(stage.add, 1), ("CellFull",))
            self.assertEqual(stage_told(stage), before)
        self.assertEqual(read(stage), (0, (0, 2), [1, 3, 0], (False, False), (0, 0), ["add"] * 3))
        self.assertEqual([stage.take(1), stage.take(1), stage.take(1)], [2, 1, 0])
        before = stage_told(stage)
        for _ in range(2):
            self.assertEqual(fault_of(stage.take, 1), ("CellEmpty",))
            self.assertEqual(stage_told(stage), before)
        self.assertEqual(read(stage), (0, (0, 2), [1, 0, 0], (False, False), (0, 0), ["add"] * 3 + ["take"] * 3))

    def test_last_cell(self):
        stage = Stage(EXAMPLE)
        self.assertEqual((stage.add(2), stage.add(2), stage.take(2)), (1, 2, 1))
        self.assertEqual(stage.shelf_boxes, [1, 0, 1])

    def test_boxes_in_hands_do_not_count(self):
        stage = Stage(plan_of("3 0 0", (0, "pick; put;"), (2, "wait;")))
        stage.step(1)
        self.assertEqual(stage.add(0), 3)
        self.assertEqual(fault_of(stage.add, 0), ("CellFull",))
        self.assertEqual(stage.step(2), [("blocked", "wait")] * 2)
        self.assertEqual((stage.take(0), stage.step(1), stage.shelf_boxes), (2, [("put", "wait")], [3, 0, 0]))

    def test_cells_that_are_none(self):
        # Both full and empty cells are there.
        stage = Stage(JUMPING)
        stage.step(2)
        stage.undo()
        before = stage_told(stage)
        for cell in (*NOT_NUMBERS, 4, 5, 12):
            self.assertEqual(fault_of(stage.add, cell), ("InvalidNumber",))
            self.assertEqual(fault_of(stage.take, cell), ("InvalidNumber",))
            self.assertEqual(stage_told(stage), before)

    def test_steps_depend_on_it(self):
        plan = plan_of("0 0 0", (0, "a: empty b; wait; goto a; b: right; left;"), (2, "wait;"))
        stage = Stage(plan)
        stage.add(0)
        self.assertEqual([words[0] for words in stage.step(3)], ["empty", "wait", "goto"])
        stage.take(0)
        self.assertEqual([words[0] for words in stage.step(3)], ["empty", "right", "left"])


class Jump(unittest.TestCase):

    def test_example(self):
        stage = Stage(EXAMPLE)
        self.assertEqual(stage.jump(0, 2), 0)
        self.assertEqual(stage.operations, ["jump"])
        self.assertEqual(stage.jump(0, 3), 2)
        self.assertEqual(stage.step(2), [("blocked", "wait")] * 2)

    def test_returns_the_former_step(self):
        stage = Stage(EXAMPLE)
        stage.step(3)
        self.assertEqual((stage.jump(0, 0), stage.jump(0, 0), stage.jump(1, 0)), (3, 0, 0))
        self.assertEqual(read(stage), (3, (1, 2), [0, 1, 0], (False, False), (0, 0), ["step"] + ["jump"] * 3))

    def test_each_step(self):
        for robot, words in ((0, ["pick", "right", "held", "goto"]), (1, ["wait", "left", "empty"])):
            stage = Stage(JUMPING)
            for step, word in enumerate(words):
                stage.jump(robot, step)
                self.assertEqual(stage.step(1)[0][robot], word)
                stage.undo()
                self.assertEqual(stage.jump(robot, 0), step)

    def test_invalid_numbers(self):
        stage = Stage(JUMPING)
        stage.step(2)
        stage.undo()
        before = stage_told(stage)
        for robot in NOT_ROBOTS:
            for step in (0, -1, None):
                self.assertEqual(fault_of(stage.jump, robot, step), ("InvalidNumber",))
        for step in (*NOT_NUMBERS, 4, 20):
            self.assertEqual(fault_of(stage.jump, 0, step), ("InvalidNumber",))
            self.assertEqual(fault_of(stage.jump, 1, step), ("InvalidNumber",))
        # Robot 0 has a step 3, robot 1 has none.
        self.assertEqual(fault_of(stage.jump, 1, 3), ("InvalidNumber",))
        self.assertEqual(stage_told(stage), before)
        self.assertEqual(stage.jump(0, 3), 0)
        self.assertEqual(stage.jump(1, 2), 0)


class UndoAndRedo(unittest.TestCase):

    def test_examples(self):
        stage = Stage(EXAMPLE)
        stage.step(1)
        self.assertEqual([stage.undo(), stage.passed, stage.undo()], [True, 0, False])
        stage = Stage(EXAMPLE)
        stage.step(1)
        stage.undo()
        self.assertEqual([stage.redo(), stage.passed], [True, 1])

    def test_nothing_to_do(self):
        stage = Stage(EXAMPLE)
        for _ in range(2):
            self.assertEqual((stage.undo(), stage.redo()), (False, False))
        self.assertEqual(read(stage), read(Stage(EXAMPLE)))

    def test_there_and_back(self):
        stage = Stage(JUMPING)
        rows = [stage_row(stage)]
        for operation in (lambda: stage.step(5), lambda: stage.add(2), lambda: stage.jump(0, 3), lambda: stage.step(0),
                          lambda: stage.take(3), lambda: stage.step(7), lambda: stage.jump(1, 1)):
            operation()
            rows.append(stage_row(stage))
        self.assertEqual(rows[-1][-1], ["step", "add", "jump", "step", "take", "step", "jump"])
        for row in rows[-2::-1]:
            self.assertIs(stage.undo(), True)
            self.assertEqual(stage_row(stage), row)
        self.assertIs(stage.undo(), False)
        for row in rows[1:]:
            self.assertIs(stage.redo(), True)
            self.assertEqual(stage_row(stage), row)
        self.assertIs(stage.redo(), False)
        self.assertEqual(stage_told(stage), rows[::-1])

    def test_each_operation_ends_redo(self):
        for operation in (lambda stage: stage.step(0), lambda stage: stage.step(1), lambda stage: stage.add(0),
                          lambda stage: stage.take(0), lambda stage: stage.jump(0, 0), lambda stage: stage.jump(1, 0)):
            stage = Stage(EXAMPLE)
            stage.add(1)
            stage.add(2)
            stage.undo()
            operation(stage)
            before = stage_row(stage)
            self.assertIs(stage.redo(), False)
            self.assertEqual(stage_row(stage), before)
            self.assertEqual((stage.undo(), stage.operations, stage.redo(), stage.redo()), (True, ["add"], True, False))
            self.assertEqual(stage_row(stage), before)

    def test_failed_operations_change_nothing(self):
        stage = Stage(EXAMPLE)
        stage.step(2)
        stage.add(1)
        stage.add(1)
        stage.undo()
        stage.undo()
        before = stage_told(stage)
        for operation, arguments, fault in (
            (stage.take, (2,), "CellEmpty"), (stage.step, (501,), "InvalidNumber"), (stage.add, (3,), "InvalidNumber"),
            (stage.jump, (0, 4), "InvalidNumber"), (stage.restore, ("x",), "UnknownName"),
            (stage.save, ("X",), "InvalidName"), (stage.batch, ([("add", 1), ("take", 2)],), "CellEmpty"),
        ):
            self.assertEqual(fault_of(operation, *arguments), (fault,))
            self.assertEqual(stage_told(stage), before)
        self.assertEqual([stage.redo(), stage.redo(), stage.redo()], [True, True, False])
        self.assertEqual(stage.shelf_boxes, [0, 2, 0])
        stage.add(1)
        self.assertEqual(fault_of(stage.add, 1), ("CellFull",))
        self.assertEqual((stage.undo(), stage.shelf_boxes, stage.redo()), (True, [0, 2, 0], True))

    def test_reading_and_saving_do_not_end_redo(self):
        stage = Stage(EXAMPLE)
        stage.add(1)
        stage.undo()
        read(stage)
        stage.save("a")
        self.assertIs(stage.redo(), True)

    def test_counts_are_undone(self):
        stage = Stage(EXAMPLE)
        stage.step(10)
        self.assertEqual((stage.blocked, stage.passed), ((6, 0), 10))
        stage.step(10)
        stage.undo()
        self.assertEqual((stage.blocked, stage.passed), ((6, 0), 10))
        stage.undo()
        self.assertEqual((stage.blocked, stage.passed), ((0, 0), 0))
        stage.redo()
        self.assertEqual((stage.blocked, stage.passed), ((6, 0), 10))

    def test_many_operations_as_the_slow_stage(self):
        for seed in range(60):
            plan = random_plan(seed)
            choice = random.Random(1000 + seed)
            stage, slow = Stage(text_of(plan)), SlowStage(plan)
            for _ in range(25):
                operation = random_operation(choice, plan)
                with self.subTest(seed=seed, operation=operation):
                    outcome = outcome_of(getattr(stage, operation[0]), *operation[1:])
                    self.assertEqual(outcome, outcome_of(slow.do, operation))
                    self.assertEqual(stage_row(stage), slow.told()[0])
            self.assertEqual(stage_told(stage), slow.told())


class Snapshots(unittest.TestCase):

    def test_example(self):
        stage = Stage(EXAMPLE)
        self.assertIsNone(stage.save("x"))
        stage.step(1)
        self.assertIsNone(stage.restore("x"))
        self.assertEqual(stage.passed, 0)

    def test_behind_an_undone_operation(self):
        stage = Stage(EXAMPLE)
        stage.step(2)
        stage.add(1)
        stage.add(2)
        stage.undo()
        stage.undo()
        stage.save("a")
        told = stage_told(stage)
        self.assertEqual(len(told), 4)
        stage.jump(0, 0)
        stage.step(7)
        stage.undo()
        for _ in range(3):
            stage.restore("a")
            self.assertEqual(stage_told(stage), told)
            # Neither what is done then nor what is undone changes the snapshot.
            stage.redo()
            stage.step(3)
            stage.undo()
        stage.restore("a")
        self.assertEqual([stage.redo(), stage.redo(), stage.redo()], [True, True, False])
        self.assertEqual(stage.operations, ["step", "add", "add"])

    def test_several_names(self):
        stage = Stage(EXAMPLE)
        for name in ("a", "abcdefgh", "zzzzzzzz", "left", "robot"):
            stage.step(1)
            stage.save(name)
        for name, ticks in (("left", 4), ("a", 1), ("zzzzzzzz", 3), ("robot", 5), ("abcdefgh", 2), ("a", 1)):
            stage.restore(name)
            self.assertEqual((stage.passed, len(stage.operations)), (ticks, ticks))

    def test_same_name_again(self):
        stage = Stage(EXAMPLE)
        stage.save("a")
        stage.step(3)
        stage.save("a")
        stage.step(4)
        stage.restore("a")
        self.assertEqual(stage.passed, 3)

    def test_are_not_part_of_the_state(self):
        stage = Stage(EXAMPLE)
        stage.save("a")
        stage.step(3)
        stage.save("b")
        stage.restore("a")
        self.assertEqual(stage.passed, 0)
        stage.restore("b")
        self.assertEqual((stage.passed, stage.undo(), stage.passed), (3, True, 0))
        stage.restore("b")
        self.assertEqual(stage.passed, 3)
        stage.save("a")
        stage.restore("a")
        self.assertEqual(stage.passed, 3)

    def test_restoring_is_no_operation(self):
        stage = Stage(EXAMPLE)
        stage.add(1)
        stage.save("a")
        stage.step(3)
        stage.restore("a")
        self.assertEqual((stage.operations, stage.redo(), stage.undo(), stage.undo()), (["add"], False, True, False))

    def test_invalid_names(self):
        stage = Stage(EXAMPLE)
        stage.step(2)
        stage.undo()
        stage.save("a")
        before = stage_told(stage)
        for name in NOT_NAMES:
            self.assertEqual(fault_of(stage.save, name), ("InvalidName",))
            self.assertEqual(fault_of(stage.restore, name), ("UnknownName",))
            self.assertEqual(stage_told(stage), before)
        self.assertIsNone(fault_of(stage.restore, "a"))

    def test_unknown_names(self):
        stage = Stage(EXAMPLE)
        self.assertEqual(fault_of(stage.restore, "a"), ("UnknownName",))
        stage.save("ab")
        stage.step(4)
        for name in ("a", "b", "abc", "ba", "AB"):
            self.assertEqual(fault_of(stage.restore, name), ("UnknownName",))
            self.assertEqual(stage.passed, 4)

    def test_as_the_slow_stage(self):
        for seed in range(30):
            plan = random_plan(seed)
            choice = random.Random(2000 + seed)
            stage, slow = Stage(text_of(plan)), SlowStage(plan)
            for _ in range(25):
                operation = choice.choice((random_operation(choice, plan), ("save", "ab"[choice.randrange(2)]),
                                           ("restore", "abc"[choice.randrange(3)])))
                with self.subTest(seed=seed, operation=operation):
                    outcome = outcome_of(getattr(stage, operation[0]), *operation[1:])
                    self.assertEqual(outcome, outcome_of(slow.do_or_keep, operation))
                    self.assertEqual(stage_told(stage), slow.told())


class Lists(unittest.TestCase):

    def test_are_new(self):
        stage = Stage(EXAMPLE)
        stage.step(1)
        for reading, expected in ((lambda: stage.shelf_boxes, [0, 0, 0]), (lambda: stage.operations, ["step"])):
            first, second = reading(), reading()
            self.assertIsNot(first, second)
            first.append(9)
            first[0] = 7
            self.assertEqual(second, expected)
            second.clear()
            self.assertEqual(reading(), expected)
        done = stage.step(2)
        self.assertEqual(done, [("right", "wait"), ("put", "wait")])
        done.clear()
        stage.undo()
        stage.redo()
        self.assertEqual(read(stage), (3, (1, 2), [0, 1, 0], (False, False), (0, 0), ["step", "step"]))

    def test_do_not_change_later(self):
        stage = Stage(EXAMPLE)
        stage.add(1)
        before = (stage.shelf_boxes, stage.operations, stage.step(1))
        stage.step(5)
        stage.add(2)
        self.assertEqual(before, ([1, 1, 0], ["add"], [("pick", "wait")]))

    def test_stages_do_not_influence_each_other(self):
        stages = [Stage(EXAMPLE) for _ in range(3)]
        stages[0].step(4)
        stages[0].save("a")
        stages[1].add(1)
        stages[1].undo()
        self.assertEqual([stage.passed for stage in stages], [4, 0, 0])
        self.assertEqual([stage.operations for stage in stages], [["step"], [], []])
        self.assertEqual([fault_of(stage.restore, "a") for stage in stages[1:]], [("UnknownName",)] * 2)
        self.assertEqual([stage.redo() for stage in stages], [False, True, False])
        self.assertEqual([stage.shelf_boxes for stage in stages], [[0, 1, 0], [1, 1, 0], [1, 0, 0]])


class Interface(unittest.TestCase):

    def test_names_and_arguments(self):
        self.assertEqual(Stage.__module__, "shelfbots.stage")
        self.assertIs(stage_module.Stage, Stage)
        self.assertEqual(list(inspect.signature(Stage).parameters), ["plan"])
        for name, arguments in (("step", ["count"]), ("add", ["cell"]), ("take", ["cell"]),
                                ("jump", ["number", "step"]), ("undo", []), ("redo", []), ("save", ["name"]),
                                ("restore", ["name"]), ("batch", ["operations"])):
            self.assertEqual(list(inspect.signature(vars(Stage)[name]).parameters), ["self", *arguments])
        self.assertIsInstance(vars(Stage)["replay"], classmethod)
        self.assertEqual(list(inspect.signature(Stage.replay).parameters), ["plan", "operations"])
        for name in ("passed", "places", "shelf_boxes", "held", "blocked", "operations"):
            self.assertIsInstance(vars(Stage)[name], property)


if __name__ == "__main__":
    unittest.main()
