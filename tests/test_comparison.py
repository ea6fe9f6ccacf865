"""Point 9: first_difference and first_error."""

import inspect
import unittest

from shelfbots import comparison
from shelfbots.comparison import first_difference, first_error
from shelfbots.machine import boxes, cells, find_cycle, trace
from tests.helpers import (
    EXAMPLE, FAR_TOO_LONG, JUST_IN_TIME, JUST_TOO_LONG, LATE_STANDSTILL, NOT_INTEGERS_NOT_STRINGS,
    TOO_LATE_STANDSTILL, fault_of, plan_of,
)

CORNER = (2, "wait;")
# Robot 0 needs 3 ticks for its steps, robot 1 needs 4, and nothing blocks them.
THREE_AND_FOUR = plan_of("1 0 0 0 2", (0, "pick; put; wait;"), (4, "left; right; pick; put;"))


def walk(numbers):
    """Returns a plan by which the digits tell in which cell robot 0 is after each tick, over and over."""
    before = numbers[-1] + numbers[:-1]
    words = {"00": "wait;", "11": "wait;", "01": "right;", "10": "left;"}
    return plan_of("0 0 0", (numbers[-1], " ".join([words[a + b] for a, b in zip(before, numbers)])), CORNER)


class FirstDifference(unittest.TestCase):

    def check(self, plan, other, tick):
        """Checks the first difference, in both orders, and that the robots and boxes do differ there."""
        self.assertEqual(first_difference(plan, other), tick)
        self.assertEqual(first_difference(other, plan), tick)
        if tick is not None:
            self.assertNotEqual((cells(plan, tick), boxes(plan, tick)), (cells(other, tick), boxes(other, tick)))

    def test_example(self):
        self.assertEqual(
            first_difference(EXAMPLE, "shelf 1 0 0; robot 0 { pick; wait; } robot 2 { wait; }"), 1)

    def test_at_tick_0(self):
        self.check(EXAMPLE, plan_of("1 0 0", (0, "wait;"), CORNER), 0)
        self.check(EXAMPLE, plan_of("1 0 0", (0, "right;"), CORNER), 0)
        self.check(EXAMPLE, plan_of("1 0 1", (0, "pick; right; put; left;"), CORNER), 0)
        self.check(EXAMPLE, plan_of("1 0 0", (0, "pick; right; put; left;"), (2, "left; right;")), 0)

    def test_only_in_the_boxes(self):
        self.check(plan_of("1 0 0", (0, "wait; wait; pick; put;"), CORNER), plan_of("1 0 0", (0, "wait;"), CORNER), 2)
        self.check(plan_of("3 0 0", (0, "wait;"), CORNER), plan_of("2 0 0", (0, "wait;"), CORNER), 0)
        self.check(plan_of("0 0 1", (0, "wait;"), (2, "wait; pick;")), plan_of("0 0 1", (0, "wait;"), CORNER), 1)
        # The number of all boxes is the same.
        self.check(plan_of("1 0 2", (1, "wait;"), CORNER), plan_of("2 0 1", (1, "wait;"), CORNER), 0)

    def test_only_in_the_cell_of_a_robot(self):
        self.check(plan_of("0 0 0", (0, "wait; wait; wait; right;"), CORNER),
                   plan_of("0 0 0", (0, "wait;"), CORNER), 3)
        self.check(plan_of("0 0 0", (0, "wait;"), (2, "wait; left; right;")),
                   plan_of("0 0 0", (0, "wait;"), CORNER), 1)

    def test_robots_are_told_apart(self):
        self.check(plan_of("0 0 0", (0, "wait;"), (2, "wait;")), plan_of("0 0 0", (2, "wait;"), (0, "wait;")), 0)

    def test_what_robots_hold_does_not_count(self):
        self.check(plan_of("1 0 0", (0, "pick; a: wait; goto a;"), CORNER),
                   plan_of("0 0 0", (0, "wait;"), CORNER), None)
        self.check(plan_of("1 0 0", (0, "pick; wait; right; put;"), CORNER),
                   plan_of("0 0 0", (0, "wait; wait; right; wait;"), CORNER), 3)

    def test_what_robots_do_does_not_count(self):
        waits = plan_of("0 0 0", (0, "wait;"), CORNER)
        for steps in ("left;", "put;", "a: goto a;", "a: held a;", "wait; wait; pick;", "a: empty b; b: goto a;"):
            with self.subTest(steps=steps):
                self.check(plan_of("0 0 0", (0, steps), CORNER), waits, None)

    def test_the_situation_before_tick_0_does_not_count(self):
        self.check(plan_of("0 0 0", (0, "right; a: goto a;"), CORNER), plan_of("0 0 0", (1, "wait;"), CORNER), None)
        self.check(plan_of("1 0 0", (0, "wait; a: goto a;"), CORNER),
                   plan_of("2 0 0", (0, "pick; a: goto a;"), CORNER), None)

    def test_never(self):
        for plan in (EXAMPLE, THREE_AND_FOUR, JUST_IN_TIME, LATE_STANDSTILL):
            self.check(plan, plan, None)
        self.check(EXAMPLE, "shelf 1 0 0;robot 0{a:pick;right;put;left;}robot 2{b:wait;wait;goto b;}", None)

    def test_never_with_other_cycles(self):
        there_and_back = plan_of("0 0 0", (0, "right; left;"), CORNER)
        self.assertEqual(find_cycle(there_and_back), (0, 2))
        for steps, waits, cycle in (
            ("right; left; right; left;", "wait; wait; wait;", (0, 12)),
            ("right; left;", "wait; wait; wait; wait; a: goto a;", (4, 2)),
            ("right; left; right; left; right; left;", "wait; wait; wait; a: wait; wait; wait; goto a;", (3, 12)),
        ):
            with self.subTest(steps=steps, waits=waits):
                other = plan_of("0 0 0", (0, steps), (2, waits))
                self.assertEqual(find_cycle(other), cycle)
                self.check(there_and_back, other, None)

    def test_never_with_other_beginnings(self):
        plan = plan_of("0 0 0", (0, "right; a: wait; wait; goto a;"), CORNER)
        other = plan_of("0 0 0", (0, "right; wait; wait; wait; b: goto b;"), (2, "wait; wait; c: wait; goto c;"))
        self.assertEqual((find_cycle(plan), find_cycle(other)), ((1, 3), (4, 2)))
        self.check(plan, other, None)
        self.check(EXAMPLE, plan_of("1 0 0", (0, "pick; right; put; left; wait; a: wait; goto a;"), CORNER), None)
        self.check(LATE_STANDSTILL, LATE_STANDSTILL.replace("goto si; put; put;", "goto si; pick;"), None)

    def test_late(self):
        # The cell of robot 0 is empty only when it has moved three boxes, and then the jumps differ.
        steps = "goto b; a: right; c: goto c; b: pick; right; put; left;"
        self.check(plan_of("3 0 0", (0, steps + " empty a; goto b;"), CORNER),
                   plan_of("3 0 0", (0, steps + " wait; goto b;"), CORNER), 18)
        other = JUST_IN_TIME.replace("sd: goto sf;", "sd: empty sf;")
        self.assertEqual((find_cycle(JUST_IN_TIME), find_cycle(other)), ((32, 19968), (32, 19929)))
        self.check(JUST_IN_TIME, other, 417)

    def test_later_than_both_cycles(self):
        # Two sequences that repeat after n and m ticks may be equal for n + m - 2 ticks, and differ then.
        self.check(walk("001"), walk("0010"), 5)
        self.check(walk("01001"), walk("01001010"), 11)
        self.check(walk("0" * 18 + "1"), walk("0" * 18 + "10"), 37)
        # The same behind a beginning.
        steps = "pick; put; a: wait; wait; wait; wait; wait; right; left;"
        self.check(plan_of("1 0 0", (0, steps + " goto a;"), CORNER),
                   plan_of("1 0 0", (0, steps + " wait; goto a;"), CORNER), 15)

    def test_kind_of_result(self):
        self.assertIs(type(first_difference(EXAMPLE, plan_of("1 0 0", (0, "wait;"), CORNER))), int)

    def test_different_shelves(self):
        for shelf in ("1 0 0 0", "1 0 0 0 0", "1 0 0 0 0 0 0 0 0 0 0 0"):
            other = plan_of(shelf, (0, "pick; right; put; left;"), CORNER)
            with self.subTest(shelf=shelf):
                self.assertEqual(fault_of(first_difference, EXAMPLE, other), ("DifferentShelves",))
                self.assertEqual(fault_of(first_difference, other, EXAMPLE), ("DifferentShelves",))

    def test_faults_of_either_plan(self):
        two_cells = plan_of("0 0", (0, "wait;"), (1, "wait;"))
        unknown = plan_of("0 0 0 0", (0, "wait;"), (1, "goto a;"))
        for text, fault in (("shelf ?", ("SyntaxFault", 0, 6)), (None, ("SyntaxFault", 0, 0)),
                            (two_cells, ("CheckFault", "cells", 0, 0)),
                            (unknown, ("CheckFault", "unknown", 0, 48))):
            with self.subTest(text=text):
                for plan in (EXAMPLE, THREE_AND_FOUR, JUST_TOO_LONG):
                    self.assertEqual(fault_of(first_difference, text, plan), fault)
                    self.assertEqual(fault_of(first_difference, plan, text), fault)

    def test_faults_of_both_plans(self):
        two_cells = plan_of("0 0", (0, "wait;"), (1, "wait;"))
        unknown = plan_of("0 0 0 0", (0, "wait;"), (1, "goto a;"))
        # From left to right.
        self.assertEqual(fault_of(first_difference, "shelf ?", None), ("SyntaxFault", 0, 6))
        self.assertEqual(fault_of(first_difference, None, "shelf ?"), ("SyntaxFault", 0, 0))
        self.assertEqual(fault_of(first_difference, two_cells, unknown), ("CheckFault", "cells", 0, 0))
        self.assertEqual(fault_of(first_difference, unknown, two_cells), ("CheckFault", "unknown", 0, 48))
        # In the order of the errors.
        self.assertEqual(fault_of(first_difference, "shelf ?", two_cells), ("SyntaxFault", 0, 6))
        self.assertEqual(fault_of(first_difference, two_cells, "shelf ?"), ("SyntaxFault", 0, 6))

    def test_too_long(self):
        twelve = plan_of("0 0 0 0 0 0 0 0 0 0 0 0", (0, "wait;"), CORNER)
        for plan in (JUST_TOO_LONG, TOO_LATE_STANDSTILL, FAR_TOO_LONG):
            with self.subTest(plan=plan):
                self.assertEqual(fault_of(first_difference, plan, twelve), ("TooLong",))
                self.assertEqual(fault_of(first_difference, twelve, plan), ("TooLong",))
                self.assertEqual(fault_of(first_difference, plan, plan), ("TooLong",))
                self.assertEqual(fault_of(first_difference, plan, EXAMPLE), ("DifferentShelves",))
                self.assertEqual(fault_of(first_difference, EXAMPLE, plan), ("DifferentShelves",))


class FirstError(unittest.TestCase):

    def log_of(self, plan, many):
        """Returns the right log of the first ticks."""
        return [row[1:] for first in range(0, many, 500) for row in trace(plan, first, min(first + 499, many - 1))]

    def test_example(self):
        self.assertEqual(first_error(EXAMPLE, [("pick", "wait"), ("right", "wait"), ("left", "wait")]), 2)

    def test_right_logs(self):
        for plan in (EXAMPLE, THREE_AND_FOUR, "shelf 0 0 0; robot 0 { right; } robot 1 { left; }"):
            for many in (1, 2, 3, 4, 5, 6, 12, 13, 30, 499):
                with self.subTest(plan=plan, many=many):
                    self.assertIsNone(first_error(plan, self.log_of(plan, many)))
        self.assertIsNone(first_error(EXAMPLE, [("pick", "wait"), ("right", "wait"), ("put", "wait"), ("left", "wait"),
                                                ("blocked", "wait"), ("blocked", "wait")]))

    def test_empty_log(self):
        self.assertIsNone(first_error(EXAMPLE, []))

    def test_wrong_words(self):
        for plan in (EXAMPLE, THREE_AND_FOUR):
            right = self.log_of(plan, 40)
            for index in (0, 1, 4, 5, 12, 38, 39):
                word, other = right[index]
                for item in (("goto", other), (word, "goto"), (other, word), ("", ""), (word, other + " ")):
                    with self.subTest(plan=plan, index=index, item=item):
                        self.assertEqual(first_error(plan, [*right[:index], item, *right[index + 1:]]), index)
                        self.assertEqual(first_error(plan, [*right[:index], item]), index)
                        self.assertEqual(first_error(plan, [*right[:index], item, None, item]), index)

    def test_items_that_are_no_tuples_of_two_words(self):
        right = self.log_of(EXAMPLE, 8)
        for item in (*NOT_INTEGERS_NOT_STRINGS, 0, 1, "", "pick", "pick wait", ["pick", "wait"], ("pick",),
                     ("wait", "pick"), ("pick", "wait", "wait"), ("pick", None), (("pick", "wait"),),
                     ["blocked", "wait"], ("blocked",), ("blocked", "wait", 1), ("blocked", ("wait",))):
            for index in (0, 3, 5, 7):
                with self.subTest(item=item, index=index):
                    self.assertEqual(first_error(EXAMPLE, [*right[:index], item, *right[index + 1:]]), index)

    def test_no_list(self):
        right = tuple(self.log_of(EXAMPLE, 3))
        for log in (True, False, None, 0, 1, -1, "", "pick", (), right, (right,), ("pick", "wait")):
            with self.subTest(log=log):
                self.assertEqual(first_error(EXAMPLE, log), 0)

    def test_longer_than_a_long_cycle(self):
        log = self.log_of(LATE_STANDSTILL, 20500)
        self.assertIsNone(first_error(LATE_STANDSTILL, log))
        self.assertEqual(log[19998:20000], [("empty", "blocked"), ("blocked", "blocked")])
        log[20400] = ("wait", "blocked")
        self.assertEqual(first_error(LATE_STANDSTILL, log), 20400)

    def test_logs_are_not_modified(self):
        log = [("pick", "wait"), ["right", "wait"], None]
        self.assertEqual(first_error(EXAMPLE, log), 1)
        self.assertEqual(log, [("pick", "wait"), ["right", "wait"], None])

    def test_kind_of_result(self):
        self.assertIs(type(first_error(EXAMPLE, None)), int)
        self.assertIs(type(first_error(EXAMPLE, [None])), int)

    def test_plans(self):
        for log in ([], None, [("pick", "wait")]):
            self.assertEqual(fault_of(first_error, "shelf ?", log), ("SyntaxFault", 0, 6))
            self.assertEqual(fault_of(first_error, True, log), ("SyntaxFault", 0, 0))
            self.assertEqual(fault_of(first_error, plan_of("0 0", (0, "wait;"), (1, "wait;")), log),
                             ("CheckFault", "cells", 0, 0))
            # The plan is checked even if nothing of it is asked for.
            self.assertEqual(fault_of(first_error, JUST_TOO_LONG, log), ("TooLong",))


class Interface(unittest.TestCase):

    def test_names_and_arguments(self):
        for name, arguments in (("first_difference", ["plan", "other"]), ("first_error", ["plan", "log"])):
            with self.subTest(name=name):
                function = getattr(comparison, name)
                self.assertEqual(function.__module__, "shelfbots.comparison")
                self.assertEqual(list(inspect.signature(function).parameters), arguments)


if __name__ == "__main__":
    unittest.main()
