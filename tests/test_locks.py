"""Point 7: lock_tick, stuck_robots, stuck_from, count_blocked, count_done and unused_steps."""

import inspect
import unittest

from shelfbots import locks
from shelfbots.locks import count_blocked, count_done, lock_tick, stuck_from, stuck_robots, unused_steps
from shelfbots.machine import trace
from tests.helpers import (
    EXAMPLE, FAR_TOO_LONG, JUST_IN_TIME, JUST_TOO_LONG, LAST_TICK, LATE_STANDSTILL, NOT_ROBOTS, NOT_TICKS,
    TOO_LATE_STANDSTILL, WAIT_TOO_LONG, fault_of, plan_of,
)

WORDS = ("left", "right", "pick", "put", "wait", "goto", "empty", "held", "blocked")
# Robot 0 needs 3 ticks for its steps, robot 1 needs 4, and nothing blocks them.
THREE_AND_FOUR = plan_of("1 0 0 0 2", (0, "pick; put; wait;"), (4, "left; right; pick; put;"))
FACE_TO_FACE = "shelf 0 0 0; robot 0 { right; } robot 1 { left; }"
# The robots take turns in the cell between them, and each is blocked once in three ticks.
IN_TURNS = plan_of("0 0 0", (0, "right; left;"), (2, "left; right;"))
# Robot 0 is blocked in all ticks but two of twenty.
OFTEN_BLOCKED = plan_of("0 0 0", (0, "right; left;"), (1, "wait;" * 17 + "right; wait; left;"))
# Robot 0 moves three boxes and is blocked from tick 12 on, robot 1 goes on.
THREE_BOXES = plan_of("3 0 0 0", (0, "pick; right; put; left;"), (2, "right; left;"))
# Robot 0 is blocked from the beginning, but the cycle begins with tick 3 only.
BEFORE_THE_CYCLE = plan_of("0 0 0", (0, "left;"), (2, "wait; wait; wait; a: wait; goto a;"))
# The last wait of robot 0 is in tick 2; robot 1 is blocked from the beginning.
ONE_AFTER_THE_OTHER = plan_of("0 0 0 0", (0, "wait; wait; wait; left; wait;"), (3, "right; wait;"))
# Robot 1 is blocked for ever, and robot 0 is not blocked.
ONLY_ROBOT_1 = plan_of("0 0 1", (0, "right; left;"), (2, "pick; pick; put;"))
# Robot 0 is blocked in the ticks 0 to 3, before the cycle, but not in the cycle.
BLOCKED_IN_THE_BEGINNING = plan_of(
    "0 0 0 0", (0, "right; a: wait; goto a;"), (1, "wait; wait; wait; right; b: goto b;"))


def words_of(plan, number, ticks):
    """Returns the list of the words of a robot in the first ticks, by trace."""
    return [row[1 + number] for row in trace(plan, 0, ticks - 1)]


ALL_PLANS = (EXAMPLE, THREE_AND_FOUR, FACE_TO_FACE, IN_TURNS, OFTEN_BLOCKED, THREE_BOXES, BEFORE_THE_CYCLE,
             ONE_AFTER_THE_OTHER, ONLY_ROBOT_1, BLOCKED_IN_THE_BEGINNING)


class Stuck(unittest.TestCase):

    def check(self, plan, first, second):
        """Checks from when on each robot is blocked for ever, and what follows from that."""
        self.assertEqual((stuck_from(plan, 0), stuck_from(plan, 1)), (first, second))
        self.assertEqual(stuck_robots(plan), [0] * (first is not None) + [1] * (second is not None))
        both = first is not None and second is not None
        self.assertEqual(lock_tick(plan), max(first, second) if both else None)

    def test_examples(self):
        self.assertEqual(lock_tick(FACE_TO_FACE), 0)
        self.assertEqual(stuck_robots(EXAMPLE), [0])
        self.assertEqual([stuck_from(EXAMPLE, 0), stuck_from(EXAMPLE, 1)], [4, None])

    def test_no_robot(self):
        self.check(THREE_AND_FOUR, None, None)
        self.check(plan_of("0 0 0", (0, "wait;"), (2, "a: goto a;")), None, None)
        self.check(JUST_IN_TIME, None, None)

    def test_one_robot(self):
        self.check(EXAMPLE, 4, None)
        self.check(THREE_BOXES, 12, None)
        self.check(ONLY_ROBOT_1, None, 1)

    def test_both_robots(self):
        self.check(FACE_TO_FACE, 0, 0)
        self.check(ONE_AFTER_THE_OTHER, 3, 0)
        self.check(plan_of("0 0 0 0", (0, "right; right; left; left;"), (3, "left; left; right; right;")), 1, 1)
        self.check(plan_of("0 0 0 0", (3, "right; wait;"), (0, "wait; wait; wait; left; wait;")), 0, 3)

    def test_late(self):
        self.check(LATE_STANDSTILL, 19999, 22)
        self.check(WAIT_TOO_LONG, 17911, 0)

    def test_blocked_for_ever_before_the_cycle_begins(self):
        self.check(BEFORE_THE_CYCLE, 0, None)
        self.check(plan_of("0 0 0", (0, "wait; left;"), (2, "wait; wait; wait; wait; a: goto a;")), 1, None)
        self.check(plan_of("0 0 0", (0, "wait; wait; wait; a: goto a;"), (2, "wait; put;")), None, 1)

    def test_often_blocked_but_not_for_ever(self):
        self.check(IN_TURNS, None, None)
        self.check(OFTEN_BLOCKED, None, None)
        self.check(BLOCKED_IN_THE_BEGINNING, None, None)

    def test_blocked_for_a_while_and_later_for_ever(self):
        # Robot 1 makes room for two moves of robot 0, and then it never moves again.
        plan = plan_of("0 0 0 0", (0, "right; right; right; right;"), (1, "wait; wait; right; right; a: wait; goto a;"))
        self.assertEqual(words_of(plan, 0, 7), ["blocked"] * 3 + ["right", "right"] + ["blocked"] * 2)
        self.check(plan, 5, None)

    def test_kinds_of_results(self):
        self.assertIs(type(lock_tick(FACE_TO_FACE)), int)
        self.assertIs(type(stuck_from(FACE_TO_FACE, 1)), int)
        self.assertIs(type(stuck_robots(FACE_TO_FACE)), list)
        self.assertEqual([type(robot) for robot in stuck_robots(FACE_TO_FACE)], [int, int])


class Counts(unittest.TestCase):

    def test_examples(self):
        self.assertEqual(count_blocked(EXAMPLE, 0, 10), 6)
        self.assertEqual(count_done(EXAMPLE, 0, "pick", 10), 1)

    def test_no_ticks(self):
        for plan in ALL_PLANS:
            for number in (0, 1):
                self.assertEqual(count_blocked(plan, number, 0), 0)
                self.assertEqual([count_done(plan, number, word, 0) for word in WORDS], [0] * 9)

    def test_by_trace(self):
        for plan in ALL_PLANS:
            for number in (0, 1):
                words = words_of(plan, number, 65)
                for ticks in range(66):
                    with self.subTest(plan=plan, number=number, ticks=ticks):
                        self.assertEqual(count_blocked(plan, number, ticks), words[:ticks].count("blocked"))
                        self.assertEqual([count_done(plan, number, word, ticks) for word in WORDS],
                                         [words[:ticks].count(word) for word in WORDS])

    def test_within_the_first_ticks(self):
        self.assertEqual([count_done(THREE_BOXES, 0, "pick", ticks) for ticks in range(13)],
                         [0, 1, 1, 1, 1, 2, 2, 2, 2, 3, 3, 3, 3])
        self.assertEqual([count_blocked(THREE_BOXES, 0, ticks) for ticks in (1, 11, 12, 13, 14)], [0, 0, 0, 1, 2])

    def test_within_the_cycle(self):
        self.assertEqual([count_blocked(OFTEN_BLOCKED, 0, ticks) for ticks in (16, 17, 18, 19, 20, 21)],
                         [16, 17, 18, 18, 18, 19])
        self.assertEqual([count_blocked(IN_TURNS, 0, ticks) for ticks in range(9)], [0, 0, 0, 1, 1, 1, 2, 2, 2])

    def test_most_ticks(self):
        self.assertEqual(count_blocked(EXAMPLE, 0, LAST_TICK), LAST_TICK - 4)
        self.assertEqual(count_blocked(EXAMPLE, 1, LAST_TICK), 0)
        self.assertEqual(count_done(EXAMPLE, 1, "wait", LAST_TICK), LAST_TICK)
        self.assertEqual([count_done(EXAMPLE, 0, word, LAST_TICK) for word in WORDS],
                         [1, 1, 1, 1, 0, 0, 0, 0, LAST_TICK - 4])
        # 10 ** 18 is one more than a multiple of 3, and a multiple of 4 and 20.
        self.assertEqual([count_done(THREE_AND_FOUR, 0, word, LAST_TICK) for word in ("pick", "put", "wait")],
                         [333333333333333334, 333333333333333333, 333333333333333333])
        self.assertEqual([count_done(THREE_AND_FOUR, 1, word, LAST_TICK) for word in ("left", "right", "pick", "put")],
                         [LAST_TICK // 4] * 4)
        self.assertEqual(count_blocked(IN_TURNS, 1, LAST_TICK - 1), LAST_TICK // 3)
        self.assertEqual(count_blocked(IN_TURNS, 1, LAST_TICK), LAST_TICK // 3 + 1)
        self.assertEqual(count_blocked(OFTEN_BLOCKED, 0, LAST_TICK), LAST_TICK // 20 * 18)
        self.assertEqual(count_blocked(FACE_TO_FACE, 0, LAST_TICK), LAST_TICK)
        self.assertEqual(count_blocked(BLOCKED_IN_THE_BEGINNING, 0, LAST_TICK), 4)
        self.assertEqual(count_done(BLOCKED_IN_THE_BEGINNING, 0, "goto", LAST_TICK), (LAST_TICK - 5) // 2)

    def test_late_standstill(self):
        for ticks, blocked in ((19999, 0), (20000, 1), (20001, 2), (LAST_TICK, LAST_TICK - 19999)):
            with self.subTest(ticks=ticks):
                self.assertEqual(count_blocked(LATE_STANDSTILL, 0, ticks), blocked)
                self.assertEqual(count_done(LATE_STANDSTILL, 0, "blocked", ticks), blocked)
        self.assertEqual(count_blocked(LATE_STANDSTILL, 1, LAST_TICK), LAST_TICK - 22)

    def test_long_cycle(self):
        for first in (0, 19700, LAST_TICK - 500):
            words = [row[2] for row in trace(JUST_IN_TIME, first, first + 499)]
            for word in ("right", "wait", "held"):
                with self.subTest(first=first, word=word):
                    before = count_done(JUST_IN_TIME, 1, word, first)
                    self.assertEqual(count_done(JUST_IN_TIME, 1, word, first + 500) - before, words.count(word))

    def test_all_words_make_up_all_ticks(self):
        for plan in ALL_PLANS:
            for number in (0, 1):
                for ticks in (1, 7, 1000, 999_999_999_999_999_989, LAST_TICK):
                    with self.subTest(plan=plan, number=number, ticks=ticks):
                        self.assertEqual(sum([count_done(plan, number, word, ticks) for word in WORDS]), ticks)

    def test_blocked_as_a_word(self):
        for plan in ALL_PLANS:
            for number in (0, 1):
                for ticks in (1, 5, 30, LAST_TICK):
                    self.assertEqual(count_done(plan, number, "blocked", ticks), count_blocked(plan, number, ticks))

    def test_words_that_the_robot_never_does(self):
        self.assertEqual(count_done(EXAMPLE, 0, "wait", LAST_TICK), 0)
        self.assertEqual(count_done(EXAMPLE, 1, "blocked", LAST_TICK), 0)
        # It has the step, but it is blocked.
        self.assertEqual(count_done(FACE_TO_FACE, 0, "right", LAST_TICK), 0)

    def test_other_words(self):
        for word in ("", "jump", "Wait", "wait ", " wait", "wai", "waitwait", "shelf", "robot", "sa", "None", "0"):
            with self.subTest(word=word):
                self.assertEqual(count_done(EXAMPLE, 1, word, 10), 0)
                self.assertEqual(count_done(EXAMPLE, 1, word, LAST_TICK), 0)

    def test_kinds_of_results(self):
        self.assertIs(type(count_blocked(EXAMPLE, 0, 10)), int)
        self.assertIs(type(count_done(EXAMPLE, 0, "pick", 10)), int)


class UnusedSteps(unittest.TestCase):

    def check(self, steps, expected, shelf="0 0 1", cell=2, other=(0, "wait;")):
        """Checks the unused steps of a robot, whichever number it has."""
        self.assertEqual(unused_steps(plan_of(shelf, (cell, steps), other), 0), expected)
        self.assertEqual(unused_steps(plan_of(shelf, other, (cell, steps)), 1), expected)

    def test_example(self):
        self.assertEqual(
            unused_steps("shelf 0 0 0; robot 0 { a: wait; goto a; left; } robot 2 { wait; }", 0), [2])

    def test_none(self):
        for plan in (EXAMPLE, THREE_AND_FOUR, IN_TURNS, OFTEN_BLOCKED, THREE_BOXES):
            for number in (0, 1):
                with self.subTest(plan=plan, number=number):
                    self.assertEqual(unused_steps(plan, number), [])

    def test_because_of_jumps(self):
        self.check("goto b; wait; a: wait; b: goto a;", [1])
        self.check("wait; a: goto a; wait; left;", [2, 3])
        self.check("held a; wait; a: wait;", [])
        self.check("empty a; wait; a: wait;", [])
        self.check("pick; held a; wait; a: put;", [2])
        self.check("pick; empty a; wait; a: put;", [2])
        self.check("a: empty b; goto a; b: wait; left;", [2, 3])

    def test_because_the_robot_is_blocked_for_ever(self):
        self.check("wait; put; left; right;", [1, 2, 3])
        self.check("right; wait;", [0, 1])
        self.check("right;", [0])
        self.check("pick; wait; pick; wait; put;", [2, 3, 4])
        self.check("left; left; left; wait;", [1, 2, 3])

    def test_a_step_that_is_done_once_is_used(self):
        # The second pick is blocked for ever.
        self.check("pick; left; put; right;", [])
        self.check("pick; a: wait; goto a;", [])

    def test_for_both_reasons(self):
        self.check("goto b; wait; b: wait; put; a: wait;", [1, 3, 4])

    def test_steps_that_are_used_late(self):
        # Robot 0 carries three boxes away, and only then the cell is empty.
        steps = "a: empty e; pick; right; put; left; goto a; e: wait; f: goto f; wait;"
        plan = plan_of("3 0 0 0", (0, steps), (3, "wait;"))
        self.assertEqual(unused_steps(plan, 0), [8])

    def test_steps_that_are_blocked_for_a_while(self):
        self.assertEqual(unused_steps(BLOCKED_IN_THE_BEGINNING, 0), [])

    def test_the_other_robot_does_not_count(self):
        plan = plan_of("0 0 0", (0, "a: goto a; wait; wait;"), (2, "wait; wait; wait;"))
        self.assertEqual((unused_steps(plan, 0), unused_steps(plan, 1)), ([1, 2], []))

    def test_all_of_twenty(self):
        self.check("right;" + "wait;" * 19, list(range(20)))

    def test_late_standstill(self):
        self.assertEqual([unused_steps(LATE_STANDSTILL, number) for number in (0, 1)], [[], [10, 11]])

    def test_kind_of_result(self):
        result = unused_steps(FACE_TO_FACE, 0)
        self.assertEqual((type(result), [type(step) for step in result]), (list, [int]))


class Errors(unittest.TestCase):

    def test_numbers_of_robots(self):
        for number in NOT_ROBOTS:
            with self.subTest(number=number):
                self.assertEqual(fault_of(stuck_from, EXAMPLE, number), ("InvalidNumber",))
                self.assertEqual(fault_of(count_blocked, EXAMPLE, number, 5), ("InvalidNumber",))
                self.assertEqual(fault_of(count_done, EXAMPLE, number, "wait", 5), ("InvalidNumber",))
                self.assertEqual(fault_of(unused_steps, EXAMPLE, number), ("InvalidNumber",))

    def test_numbers_of_ticks(self):
        for ticks in NOT_TICKS:
            with self.subTest(ticks=ticks):
                for number in (0, 1):
                    self.assertEqual(fault_of(count_blocked, EXAMPLE, number, ticks), ("InvalidTick",))
                    self.assertEqual(fault_of(count_done, EXAMPLE, number, "wait", ticks), ("InvalidTick",))
                    self.assertEqual(fault_of(count_done, EXAMPLE, number, "other", ticks), ("InvalidTick",))

    def test_plans(self):
        two_cells = plan_of("0 0", (0, "wait;"), (1, "wait;"))
        for text, fault in (("shelf ?", ("SyntaxFault", 0, 6)), (None, ("SyntaxFault", 0, 0)),
                            (two_cells, ("CheckFault", "cells", 0, 0))):
            with self.subTest(text=text):
                self.assertEqual(fault_of(lock_tick, text), fault)
                self.assertEqual(fault_of(stuck_robots, text), fault)
                self.assertEqual(fault_of(stuck_from, text, 2), fault)
                self.assertEqual(fault_of(count_blocked, text, 2, -1), fault)
                self.assertEqual(fault_of(count_done, text, 2, "wait", -1), fault)
                self.assertEqual(fault_of(unused_steps, text, 2), fault)

    def test_too_long(self):
        for plan in (JUST_TOO_LONG, TOO_LATE_STANDSTILL, FAR_TOO_LONG):
            with self.subTest(plan=plan):
                self.assertEqual(fault_of(lock_tick, plan), ("TooLong",))
                self.assertEqual(fault_of(stuck_robots, plan), ("TooLong",))
                self.assertEqual(fault_of(stuck_from, plan, 1), ("TooLong",))
                self.assertEqual(fault_of(count_blocked, plan, 1, 0), ("TooLong",))
                self.assertEqual(fault_of(count_done, plan, 1, "other", 0), ("TooLong",))
                self.assertEqual(fault_of(unused_steps, plan, 1), ("TooLong",))

    def test_number_before_ticks_before_too_long(self):
        self.assertEqual(fault_of(stuck_from, JUST_TOO_LONG, 2), ("InvalidNumber",))
        self.assertEqual(fault_of(unused_steps, JUST_TOO_LONG, True), ("InvalidNumber",))
        for plan in (EXAMPLE, JUST_TOO_LONG):
            self.assertEqual(fault_of(count_blocked, plan, 2, -1), ("InvalidNumber",))
            self.assertEqual(fault_of(count_done, plan, None, "wait", None), ("InvalidNumber",))
        self.assertEqual(fault_of(count_blocked, JUST_TOO_LONG, 0, LAST_TICK + 1), ("InvalidTick",))
        self.assertEqual(fault_of(count_done, JUST_TOO_LONG, 0, "wait", True), ("InvalidTick",))


class Interface(unittest.TestCase):

    def test_names_and_arguments(self):
        for name, arguments in (("lock_tick", ["plan"]), ("stuck_robots", ["plan"]), ("stuck_from", ["plan", "number"]),
                                ("count_blocked", ["plan", "number", "ticks"]),
                                ("count_done", ["plan", "number", "word", "ticks"]),
                                ("unused_steps", ["plan", "number"])):
            with self.subTest(name=name):
                function = getattr(locks, name)
                self.assertEqual(function.__module__, "shelfbots.locks")
                self.assertEqual(list(inspect.signature(function).parameters), arguments)


if __name__ == "__main__":
    unittest.main()
