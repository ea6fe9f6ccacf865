"""Point 13: batch and replay."""

import copy
import random
import unittest

from shelfbots.stage import Stage
from tests.helpers import EXAMPLE, FAR_TOO_LONG, NOT_INTEGERS_NOT_STRINGS, fault_of, outcome_of, stage_row, stage_told
from tests.slow import ARGUMENTS, Refusal, SlowStage, random_operation, random_plan, text_of

MALFORMED = (
    # No tuples.
    None, True, False, 0, 1, -1, "", "step", "undo", [], ["undo"], ["step", 1], [("undo",)],
    # No such words.
    (), ("",), ("Step", 1), ("STEP", 1), ("step ", 1), ("steps", 1), ("save", "a"), ("restore", "a"), ("batch", []),
    ("passed",), ("wait",), ("left", 0), (None,), (True,), (0,), (1, 1), (("undo",),), (["undo"],), ([], 1), ((), 1),
    ("step, 1",), (("step", 1),), (("step",), 1), (["step"], 1),
    # Wrong numbers of arguments.
    ("step",), ("step", 1, 1), ("step", 1, None), ("add",), ("add", 0, 1), ("take",), ("take", 0, 1), ("jump",),
    ("jump", 0), ("jump", 0, 0, 0), ("undo", 1), ("undo", None), ("undo", ()), ("redo", 1), ("redo", "", 0),
)
NO_LISTS = (None, True, False, 0, 1, "", "step", (), ("undo",), (("undo",),), (("step", 1), ("step", 1)))
# Well formed, but none of them can be executed on a stage with the example at its beginning.
FAILING = (
    (("step", -1), "InvalidNumber"), (("step", 501), "InvalidNumber"), (("step", True), "InvalidNumber"),
    (("step", None), "InvalidNumber"), (("step", [1]), "InvalidNumber"), (("step", "1"), "InvalidNumber"),
    (("add", 3), "InvalidNumber"), (("add", False), "InvalidNumber"), (("add", ()), "InvalidNumber"),
    (("take", 3), "InvalidNumber"), (("take", -1), "InvalidNumber"), (("take", 2), "CellEmpty"),
    (("jump", 2, 0), "InvalidNumber"), (("jump", 0, 4), "InvalidNumber"), (("jump", True, 0), "InvalidNumber"),
    (("jump", 1, 1), "InvalidNumber"), (("jump", None, None), "InvalidNumber"),
)


def prepared():
    """Returns a stage with three operations, two of which are undone, and a snapshot."""
    stage = Stage(EXAMPLE)
    stage.step(2)
    stage.add(1)
    stage.jump(0, 0)
    stage.save("a")
    stage.undo()
    stage.undo()
    return stage


class Batch(unittest.TestCase):

    def test_examples(self):
        self.assertEqual(Stage(EXAMPLE).batch([("step", 1), ("undo",)]), [[("pick", "wait")], True])
        self.assertEqual(fault_of(Stage(EXAMPLE).batch, [("step",)]), ("InvalidOperation", 0))

    def test_each_operation(self):
        stage = Stage(EXAMPLE)
        results = stage.batch([("step", 2), ("add", 1), ("add", 1), ("take", 1), ("jump", 0, 3), ("undo",), ("redo",),
                               ("redo",), ("step", 0)])
        self.assertEqual(results, [[("pick", "wait"), ("right", "wait")], 1, 2, 1, 2, True, True, False, []])
        self.assertEqual([type(result) for result in results], [list, int, int, int, int, bool, bool, bool, list])
        self.assertEqual(stage_row(stage), (2, (1, 2), [0, 1, 0], (True, False), (0, 0), (3, 0),
                                            ["step", "add", "add", "take", "jump", "step"]))

    def test_no_operation(self):
        stage = prepared()
        before = stage_told(stage)
        self.assertEqual(stage.batch([]), [])
        self.assertEqual(stage_told(stage), before)

    def test_operations_are_undone_one_by_one(self):
        stage = Stage(EXAMPLE)
        stage.batch([("step", 1), ("add", 2), ("step", 1)])
        self.assertEqual([stage.undo(), stage.passed, stage.shelf_boxes], [True, 1, [0, 0, 1]])
        self.assertEqual([stage.undo(), stage.passed, stage.shelf_boxes], [True, 1, [0, 0, 0]])
        self.assertEqual([stage.undo(), stage.undo(), stage.redo(), stage.redo(), stage.redo(), stage.redo()],
                         [True, False, True, True, True, False])

    def test_undo_and_redo_of_earlier_operations(self):
        stage = prepared()
        self.assertEqual(stage.batch([("redo",), ("redo",), ("redo",), ("undo",)]), [True, True, False, True])
        self.assertEqual(stage.operations, ["step", "add"])
        self.assertEqual(stage.batch([("undo",)] * 3 + [("redo",)]), [True, True, False, True])
        self.assertEqual(stage_row(stage), (2, (1, 2), [0, 0, 0], (True, False), (0, 0), (2, 0), ["step"]))

    def test_nothing_to_undo_is_no_failure(self):
        stage = Stage(EXAMPLE)
        self.assertEqual(stage.batch([("undo",), ("redo",), ("add", 0), ("redo",)]), [False, False, 2, False])

    def test_returned_lists_are_new(self):
        stage = Stage(EXAMPLE)
        results = stage.batch([("step", 2), ("step", 1)])
        results[0].clear()
        results.clear()
        told = stage_told(stage)
        other = Stage(EXAMPLE)
        self.assertEqual(other.batch([("step", 2), ("step", 1)]),
                         [[("pick", "wait"), ("right", "wait")], [("put", "wait")]])
        self.assertEqual(stage_told(other), told)


class FailingBatch(unittest.TestCase):

    def test_each_failure_at_the_beginning(self):
        for operation, name in FAILING:
            with self.subTest(operation=operation):
                for rest in ([], [("step", 1)], [operation], [("take", 2)], [("step", 501)]):
                    stage = Stage(EXAMPLE)
                    before = stage_told(stage)
                    self.assertEqual(fault_of(stage.batch, [operation, *rest]), (name,))
                    self.assertEqual(stage_told(stage), before)

    def test_last_operation_fails(self):
        for operation, name in FAILING:
            for first in ([("step", 1), ("undo",)], [("add", 2), ("take", 2), ("jump", 1, 0)],
                          [("undo",)] * 4, [("undo",), ("redo",), ("redo",), ("redo",), ("step", 3), ("undo",)]):
                with self.subTest(operation=operation, first=first):
                    stage = prepared()
                    before = stage_told(stage)
                    self.assertEqual(fault_of(stage.batch, [*first, operation]), (name,))
                    self.assertEqual(stage_told(stage), before)
                    self.assertEqual([stage.redo(), stage.redo(), stage.redo()], [True, True, False])

    def test_cell_becomes_full(self):
        stage = prepared()
        before = stage_told(stage)
        self.assertEqual(fault_of(stage.batch, [("add", 1)] * 4), ("CellFull",))
        self.assertEqual(stage_told(stage), before)
        self.assertEqual(stage.batch([("add", 1)] * 3), [1, 2, 3])

    def test_first_error_counts(self):
        stage = Stage(EXAMPLE)
        self.assertEqual(fault_of(stage.batch, [("add", 1), ("take", 2), ("step", 501)]), ("CellEmpty",))
        self.assertEqual(fault_of(stage.batch, [("add", 1), ("step", 501), ("take", 2)]), ("InvalidNumber",))
        self.assertEqual(fault_of(stage.batch, [("add", 0)] * 3 + [("step", 501)]), ("CellFull",))
        self.assertEqual(stage_told(stage), stage_told(Stage(EXAMPLE)))

    def test_an_operation_that_a_former_one_makes_possible(self):
        stage = Stage(EXAMPLE)
        self.assertEqual(stage.batch([("add", 1), ("take", 1)]), [1, 0])
        self.assertEqual(fault_of(stage.batch, [("add", 1), ("undo",), ("take", 1)]), ("CellEmpty",))
        self.assertEqual(stage.operations, ["add", "take"])

    def test_snapshots_stay(self):
        stage = prepared()
        self.assertEqual(fault_of(stage.batch, [("step", 3), ("take", 2)]), ("CellEmpty",))
        stage.restore("a")
        self.assertEqual(stage.operations, ["step", "add", "jump"])

    def test_as_the_slow_stage(self):
        for seed in range(60):
            plan = random_plan(seed)
            choice = random.Random(3000 + seed)
            stage, slow = Stage(text_of(plan)), SlowStage(plan)
            for _ in range(6):
                operations = [random_operation(choice, plan) for _ in range(choice.choice((0, 1, 2, 3, 4, 8)))]
                with self.subTest(seed=seed, operations=operations):
                    kept = copy.deepcopy(operations)
                    self.assertEqual(outcome_of(stage.batch, operations), outcome_of(slow.batch, operations))
                    self.assertEqual(operations, kept)
                    self.assertEqual(stage_told(stage), slow.told())


class MalformedBatch(unittest.TestCase):

    def test_each_entry_at_each_place(self):
        for entry in MALFORMED:
            with self.subTest(entry=entry):
                stage = prepared()
                before = stage_told(stage)
                for many in range(4):
                    for rest in ([], [("step", 1)], [entry], [None], [("take", 2)]):
                        operations = [("step", 1), ("undo",), ("redo",)][:many] + [entry] + rest
                        self.assertEqual(fault_of(stage.batch, operations), ("InvalidOperation", many))
                self.assertEqual(stage_told(stage), before)

    def test_before_anything_is_executed(self):
        # The first operation would fail, but the second entry is none.
        for operation, _ in FAILING:
            for entry in MALFORMED:
                self.assertEqual(fault_of(prepared().batch, [operation, entry, entry]), ("InvalidOperation", 1))
        self.assertEqual(fault_of(prepared().batch, [("step", 501)] * 50 + [("undo", 0)]), ("InvalidOperation", 50))

    def test_wrong_arguments_are_not_malformed(self):
        for operation, name in FAILING:
            self.assertEqual(fault_of(Stage(EXAMPLE).batch, [operation]), (name,))

    def test_no_list(self):
        stage = prepared()
        before = stage_told(stage)
        for value in NO_LISTS:
            self.assertEqual(fault_of(stage.batch, value), ("InvalidOperation", 0))
        self.assertEqual(stage_told(stage), before)

    def test_argument_is_not_modified(self):
        for operations in ([("step", [1])], [("step", 1), ["add", 1]], [("jump", 0, [])], [[], ()],
                           [("add", 1), ("undo",)]):
            before = copy.deepcopy(operations)
            fault_of(prepared().batch, operations)
            fault_of(Stage.replay, EXAMPLE, operations)
            self.assertEqual(operations, before)
        for value in NOT_INTEGERS_NOT_STRINGS:
            before = copy.deepcopy(value)
            fault_of(prepared().batch, value)
            fault_of(Stage.replay, EXAMPLE, value)
            self.assertEqual((type(value), value), (type(before), before))


class Replay(unittest.TestCase):

    def test_example(self):
        stage = Stage.replay(EXAMPLE, [("step", 3)])
        self.assertIs(type(stage), Stage)
        self.assertEqual(stage.shelf_boxes, [0, 1, 0])

    def test_no_operation(self):
        self.assertEqual(stage_told(Stage.replay(EXAMPLE, [])), stage_told(Stage(EXAMPLE)))

    def test_is_called_on_stages_too(self):
        stage = prepared()
        before = stage_told(stage)
        other = stage.replay(EXAMPLE, [("add", 1)])
        self.assertEqual((other.operations, other.passed), (["add"], 0))
        self.assertEqual(stage_told(stage), before)
        self.assertEqual(fault_of(other.restore, "a"), ("UnknownName",))

    def test_with_undone_operations(self):
        stage = Stage.replay(EXAMPLE, [("step", 3), ("add", 2), ("undo",), ("undo",), ("redo",)])
        self.assertEqual((stage.passed, stage.operations, stage.redo(), stage.shelf_boxes),
                         (3, ["step"], True, [0, 1, 1]))

    def test_first_failing_one(self):
        for operation, _ in FAILING:
            with self.subTest(operation=operation):
                self.assertEqual(fault_of(Stage.replay, EXAMPLE, [operation]), ("InvalidOperation", 0))
                for first in ([("undo",)], [("step", 1), ("undo",)], [("jump", 0, 2)],
                              [("redo",), ("add", 2), ("undo",)]):
                    for rest in ([], [("step", 1)], [operation], [None]):
                        self.assertEqual(fault_of(Stage.replay, EXAMPLE, [*first, operation, *rest]),
                                         ("InvalidOperation", len(first)))
        self.assertEqual(fault_of(Stage.replay, EXAMPLE, [("add", 0)] * 9), ("InvalidOperation", 2))

    def test_first_malformed_one(self):
        for entry in MALFORMED:
            with self.subTest(entry=entry):
                for many in range(4):
                    for rest in ([], [("step", 1)], [entry], [("step", 501)]):
                        operations = [("step", 1), ("undo",), ("redo",)][:many] + [entry] + rest
                        self.assertEqual(fault_of(Stage.replay, EXAMPLE, operations), ("InvalidOperation", many))
                self.assertEqual(fault_of(Stage.replay, EXAMPLE, [("add", 1), ("take", 2), entry]),
                                 ("InvalidOperation", 1))

    def test_no_list(self):
        for value in NO_LISTS:
            self.assertEqual(fault_of(Stage.replay, EXAMPLE, value), ("InvalidOperation", 0))

    def test_plans_first(self):
        for operations in (None, (), [None], [("step", 501)], [("step", 1)]):
            self.assertEqual(fault_of(Stage.replay, "shelf ?", operations), ("SyntaxFault", 0, 6))
            self.assertEqual(fault_of(Stage.replay, True, operations), ("SyntaxFault", 0, 0))
            self.assertEqual(fault_of(Stage.replay, "shelf 1 0; robot 0 { wait; } robot 1 { wait; }", operations),
                             ("CheckFault", "cells", 0, 0))
        self.assertEqual(Stage.replay(FAR_TOO_LONG, [("step", 500)] * 2).passed, 1000)

    def test_as_the_slow_stage(self):
        for seed in range(60):
            plan = random_plan(seed)
            choice = random.Random(4000 + seed)
            operations = [random_operation(choice, plan) for _ in range(choice.choice((1, 2, 4, 8, 12)))]
            kept = copy.deepcopy(operations)
            slow = SlowStage(plan)
            expected = None
            for place, operation in enumerate(operations):
                try:
                    slow.do(operation)
                except Refusal:
                    expected = ("InvalidOperation", place)
                    break
            with self.subTest(seed=seed, operations=operations):
                self.assertEqual(fault_of(Stage.replay, text_of(plan), operations), expected)
                if expected is None:
                    self.assertEqual(stage_told(Stage.replay(text_of(plan), operations)), slow.told())
                self.assertEqual(operations, kept)


class AllWays(unittest.TestCase):

    def test_one_by_one_as_a_list_replayed_and_from_a_snapshot(self):
        for seed in range(60):
            plan = random_plan(seed)
            text = text_of(plan)
            choice = random.Random(5000 + seed)
            single = Stage(text)
            operations, results = [], []
            while len(operations) < 15:
                operation = random_operation(choice, plan)
                if fault_of(getattr(single, operation[0]), *operation[1:]) is None:
                    operations.append(operation)
            single = Stage(text)
            for word, *arguments in operations:
                self.assertEqual(len(arguments), ARGUMENTS[word])
                results.append(getattr(single, word)(*arguments))
            told = stage_told(single)
            with self.subTest(seed=seed, operations=operations):
                together = Stage(text)
                together.save("first")
                self.assertEqual(together.batch(operations), results)
                self.assertEqual(stage_told(together), told)
                self.assertEqual(stage_told(Stage.replay(text, operations)), told)
                together.save("last")
                half = choice.randrange(16)
                together.restore("first")
                self.assertEqual(together.batch(operations[:half]), results[:half])
                together.save("half")
                self.assertEqual(together.batch(operations[half:]), results[half:])
                self.assertEqual(stage_told(together), told)
                together.restore("half")
                together.step(1)
                together.restore("half")
                self.assertEqual(together.batch(operations[half:]), results[half:])
                self.assertEqual(stage_told(together), told)
                together.restore("first")
                together.restore("last")
                self.assertEqual(stage_told(together), told)


if __name__ == "__main__":
    unittest.main()
