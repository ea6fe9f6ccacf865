"""Point 8: plan_waits and free_starts."""

import inspect
import itertools
import unittest

from shelfbots import planning
from shelfbots.formatter import count_steps, format_plan
from shelfbots.locks import stuck_robots
from shelfbots.machine import find_cycle
from shelfbots.planning import free_starts, plan_waits
from tests.helpers import (
    EXAMPLE, FAR_TOO_LONG, JUST_IN_TIME, JUST_TOO_LONG, LAST_TICK, NO_WAIT_BEFORE_TOO_LONG,
    NOT_INTEGERS_NOT_STRINGS, OTHER_STARTS_TOO_LONG, TOO_LATE_STANDSTILL, WAIT_BEFORE_TOO_LONG, WAIT_TOO_LONG,
    fault_of, plan_of,
)

NOT_LIMITS = (*NOT_INTEGERS_NOT_STRINGS, -1, -2, 4, 5, LAST_TICK, -LAST_TICK, "", "0", "1")
RIGHT_AND_BACK = "right; right; left; left;"
LEFT_AND_BACK = "left; left; right; right;"
FOUR = "0 0 0 0"


def padded(many):
    """Returns the steps of LEFT_AND_BACK with a jump back and steps behind it that are never done, so many in all."""
    return "z: " + LEFT_AND_BACK + " goto z;" + " wait;" * (many - 5)


# The shelf, both robots, and the places of the fewest waits.
CASES = (
    # No wait is needed.
    (FOUR, (0, "right; left;"), (3, "left; right;"), []),
    ("1 0 0", (0, "pick; right; put; left; right; pick; left; put;"), (2, "a: wait; goto a;"), []),
    # One wait; the first one is the example.
    (FOUR, (0, RIGHT_AND_BACK), (3, LEFT_AND_BACK), [(1, 0)]),
    ("1 3 1 1 1", (2, "left; left; right; wait; right;"), (4, "left; left; left; right; right; right;"), [(0, 0)]),
    ("1 0 1 1", (2, "right; left; left; right;"), (0, "right; left; right; right; left; left;"), [(1, 1)]),
    # One wait behind the last step.
    ("0 1 0 3", (2, "right; left; left; right;"), (1, "wait; left; right; wait; right; left;"), [(0, 4)]),
    ("2 1 1 3", (2, "right; left; left; right;"), (0, "empty b; b: wait; wait; right; right; left; left;"), [(1, 7)]),
    # Two waits: at one place, at two places of a robot, and of both robots.
    ("3 3 1 1", (0, "right; right; left; left; pick; put;"), (2, "left; right; right; left;"), [(0, 0), (0, 0)]),
    ("0 1 2 1", (2, "left; left; right; pick; put; right;"), (3, "left; left; wait; right; right;"), [(1, 4)] * 2),
    ("1 3 0 1", (3, LEFT_AND_BACK), (0, "wait; right; right; left; right; left; left;"), [(0, 4), (0, 4)]),
    ("1 2 2 3 1", (2, "right; left; right; right; left; left; wait;"), (1, "wait; right; right; left; left;"),
     [(1, 0), (1, 5)]),
    ("0 1 1 1", (0, RIGHT_AND_BACK), (3, "left; wait; left; right; right;"), [(0, 3), (1, 0)]),
    ("1 1 2 3", (1, "left; right; wait; right; left; wait;"), (3, LEFT_AND_BACK), [(0, 0), (1, 3)]),
    # Three waits.
    ("0 1 1 2", (0, "right; right; left; right; left; left;"), (3, LEFT_AND_BACK), [(1, 0)] * 3),
    ("1 1 1 1", (1, "right; left; pick; right; left; put;"), (0, "right; pick; put; left;"), [(1, 4)] * 3),
    ("1 0 1 2", (0, RIGHT_AND_BACK), (3, "left; left; right; left; right; right;"), [(0, 4), (0, 4), (1, 0)]),
    (FOUR, (0, "wait; right; wait; right; left; left;"), (3, LEFT_AND_BACK), [(0, 0), (1, 2), (1, 3)]),
    # Jumps over the new waits, forwards and backwards, and to the very steps before which they stand.
    ("2 2 1 1", (0, "right; right; left; left; pick; a: goto a;"),
     (3, "left; left; a: goto a; right; right; right;"), [(1, 0)]),
    ("1 1 3 2 0", (3, "left; right; left; left; right; right;"),
     (0, "a: right; wait; held b; right; left; left; b: goto a;"), [(0, 0), (0, 1)]),
    ("1 2 1 0", (2, "left; left; right; wait; right;"),
     (3, "left; b: right; left; wait; left; right; goto b;"), [(0, 1)] * 3),
    ("3 3 2 0", (2, "left; right; left; d: left; right; held d; right;"), (3, LEFT_AND_BACK), [(1, 0), (1, 0), (1, 3)]),
    ("2 3 0 1", (3, "left; right; left; right; e: wait; goto e;"), (1, "right; b: goto b;"), [(1, 0), (1, 0)]),
    ("0 0 1 1", (1, "left; wait; right; right; left;"),
     (3, "a: empty a; left; c: held c; left; right; right;"), [(0, 0), (0, 0)]),
    ("0 1 3 1", (3, "left; empty d; left; d: right;"), (1, "pick; left; right; put; left; right;"), [(0, 4)] * 3),
    ("1 2 1 1", (2, "left; b: left; right; held b; right; pick; put;"),
     (3, "left; pick; put; left; right; right;"), [(0, 1), (0, 1), (1, 5)]),
    ("1 1 3 0", (0, "right; empty f; right; wait; left; f: left;"),
     (3, "wait; left; wait; left; right; right;"), [(0, 5), (1, 0)]),
    ("1 1 1 2", (0, "right; right; empty e; d: left; e: left; empty d;"),
     (3, "left; pick; wait; right; left; put; right;"), [(0, 4), (1, 0)]),
    ("3 1 3 1", (3, "a: left; b: wait; empty a; goto b; right;"),
     (0, "wait; right; right; left; pick; f: goto f; left;"), [(0, 0)] * 3),
    # A robot that has more room for waits than it needs, and exactly as much.
    (FOUR, (0, RIGHT_AND_BACK), (3, padded(18)), [(1, 0)]),
    (FOUR, (0, RIGHT_AND_BACK), (3, padded(19)), [(1, 0)]),
    (FOUR, (0, RIGHT_AND_BACK), (3, padded(20)), [(0, 0), (0, 0)]),
    ("1 0 1 0 3", (3, "left; right; left; left; right; right;"), (4, padded(18)), [(1, 0), (1, 4)]),
    ("1 0 1 0 3", (4, padded(17)), (3, "left; right; left; left; right; right;"), [(0, 0), (0, 0), (0, 4)]),
    # Robots that can take no more waits, although they need none.
    (FOUR, (0, "right; left;" * 10), (3, "left; right;" * 10), []),
)
# Plans for which three waits are not enough, or cannot be inserted.
HOPELESS = (
    (FOUR, (0, "right; left;"), (3, "put;")),
    ("0 0 0", (0, "right;"), (1, "left;")),
    (FOUR, (0, "right;" * 20), (3, "left;" * 20)),
    (FOUR, (0, RIGHT_AND_BACK * 5), (3, LEFT_AND_BACK * 5)),
    (FOUR, (0, "right; right; left; left; " * 4 + "right; right; left;"), (3, LEFT_AND_BACK * 5)),
    ("1 0 1 0 3", (3, "left; right; left; left; right; right;"), (4, padded(19))),
    ("1 0 1 0 3", (4, padded(18)), (3, "left; right; left; left; right; right;")),
)


def with_waits(robots, places):
    """Returns the robots with a step `wait;` at each of the places; labels stay with their steps."""
    longer = []
    for robot, (cell, text) in enumerate(robots):
        steps = [step.strip() + ";" for step in text.split(";")[:-1]]
        # From the last place to the first one, so that each number still tells its place.
        for owner, number in reversed(places):
            if owner == robot:
                steps.insert(number, "wait;")
        longer.append((cell, " ".join(steps)))
    return longer


def all_places(plan):
    """Returns the list of all places where a wait can be inserted."""
    return [(robot, number) for robot, many in enumerate(count_steps(plan)) for number in range(many + 1)]


class PlanWaits(unittest.TestCase):

    def test_example(self):
        plan = "shelf 0 0 0 0; robot 0 { right; right; left; left; } robot 3 { left; left; right; right; }"
        self.assertEqual(plan_waits(plan, 1)[0], [(1, 0)])
        self.assertEqual(plan_waits(plan, 1)[1],
                         "shelf 0 0 0 0;\nrobot 0 {\n  right;\n  right;\n  left;\n  left;\n}\n"
                         "robot 3 {\n  wait;\n  left;\n  left;\n  right;\n  right;\n}")

    def test_limits(self):
        for shelf, first, second, places in CASES:
            plan = plan_of(shelf, first, second)
            expected = (places, format_plan(plan_of(shelf, *with_waits((first, second), places))))
            for limit in range(4):
                with self.subTest(plan=plan, limit=limit):
                    self.assertEqual(plan_waits(plan, limit), expected if limit >= len(places) else None)

    def test_no_robot_is_stuck_by_the_new_plan(self):
        for shelf, first, second, places in CASES:
            plan = plan_of(shelf, first, second)
            with self.subTest(plan=plan):
                self.assertEqual(bool(stuck_robots(plan)), bool(places))
                text = plan_waits(plan, 3)[1]
                self.assertEqual(stuck_robots(text), [])
                self.assertEqual(format_plan(text), text)

    def test_all_earlier_lists_leave_a_robot_stuck(self):
        for shelf, first, second, places in CASES:
            plan = plan_of(shelf, first, second)
            if len(places) > 2:
                continue
            with self.subTest(plan=plan):
                for many in range(len(places) + 1):
                    for chosen in itertools.combinations_with_replacement(all_places(plan), many):
                        if list(chosen) == places:
                            break
                        longer = plan_of(shelf, *with_waits((first, second), chosen))
                        if fault_of(count_steps, longer) is None:
                            self.assertNotEqual(stuck_robots(longer), [], chosen)

    def test_hopeless(self):
        for shelf, first, second in HOPELESS:
            plan = plan_of(shelf, first, second)
            for limit in range(4):
                with self.subTest(plan=plan, limit=limit):
                    self.assertIsNone(plan_waits(plan, limit))

    def test_no_wait_needed(self):
        plan = "shelf 1 0 0;robot 0{here:wait;unused:wait;goto here;}robot 2{wait;}"
        for limit in range(4):
            self.assertEqual(plan_waits(plan, limit), ([], format_plan(plan)))
        self.assertIn("sa: wait;\n  wait;\n  goto sa;", plan_waits(plan, 0)[1])
        self.assertEqual(plan_waits(JUST_IN_TIME, 3), ([], format_plan(JUST_IN_TIME)))

    def test_several_waits_at_one_place_stand_one_after_another(self):
        plan = plan_of("0 1 1 2", (0, "right; right; left; right; left; left;"), (3, LEFT_AND_BACK))
        self.assertIn("robot 3 {\n  wait;\n  wait;\n  wait;\n  left;\n  left;\n  right;\n  right;\n}",
                      plan_waits(plan, 3)[1])

    def test_waits_at_the_end(self):
        plan = plan_of("0 1 3 1", (3, "left; empty d; left; d: right;"), (1, "pick; left; right; put; left; right;"))
        self.assertIn("robot 3 {\n  left;\n  empty sd;\n  left;\n  sd: right;\n  wait;\n  wait;\n  wait;\n}",
                      plan_waits(plan, 3)[1])

    def test_jumps_lead_to_the_same_steps_as_before(self):
        # The wait stands before the step to which the first jump leads, and behind the one to which the other leads.
        plan = plan_of("1 1 1 2", (0, "right; right; empty e; d: left; e: left; empty d;"),
                       (3, "left; pick; wait; right; left; put; right;"))
        places, text = plan_waits(plan, 2)
        self.assertEqual(places, [(0, 4), (1, 0)])
        self.assertIn("{\n  right;\n  right;\n  empty sf;\n  sd: left;\n  wait;\n  sf: left;\n  empty sd;\n}", text)
        # Several waits stand before step 0, to which a jump leads, too.
        plan = plan_of("3 1 3 1", (3, "a: left; b: wait; empty a; goto b; right;"),
                       (0, "wait; right; right; left; pick; f: goto f; left;"))
        self.assertIn("{\n  wait;\n  wait;\n  wait;\n  sd: left;\n  se: wait;\n  empty sd;\n  goto se;\n  right;\n}",
                      plan_waits(plan, 3)[1])

    def test_robots_are_told_by_their_numbers(self):
        # The waits of robot 0 come first, whichever robot stands on the left.
        plan = plan_of(FOUR, (3, LEFT_AND_BACK), (0, RIGHT_AND_BACK))
        self.assertEqual(plan_waits(plan, 1)[0], [(1, 0)])

    def test_kinds_of_results(self):
        result = plan_waits(plan_of(FOUR, (0, RIGHT_AND_BACK), (3, LEFT_AND_BACK)), 1)
        self.assertEqual((type(result), [type(part) for part in result]), (tuple, [list, str]))
        self.assertEqual((type(result[0][0]), [type(part) for part in result[0][0]]), (tuple, [int, int]))

    def test_invalid_limits(self):
        for limit in NOT_LIMITS:
            with self.subTest(limit=limit):
                for plan in (EXAMPLE, plan_of(FOUR, (0, "wait;"), (3, "wait;")), JUST_TOO_LONG):
                    self.assertEqual(fault_of(plan_waits, plan, limit), ("InvalidNumber",))

    def test_plans(self):
        for limit in (0, 4, None):
            self.assertEqual(fault_of(plan_waits, "shelf ?", limit), ("SyntaxFault", 0, 6))
            self.assertEqual(fault_of(plan_waits, None, limit), ("SyntaxFault", 0, 0))
            self.assertEqual(fault_of(plan_waits, plan_of("0 0", (0, "wait;"), (1, "wait;")), limit),
                             ("CheckFault", "cells", 0, 0))


class PlanWaitsTooLong(unittest.TestCase):

    def test_the_given_plan(self):
        for plan in (JUST_TOO_LONG, TOO_LATE_STANDSTILL, FAR_TOO_LONG):
            for limit in range(4):
                with self.subTest(plan=plan, limit=limit):
                    self.assertEqual(fault_of(plan_waits, plan, limit), ("TooLong",))

    def test_a_plan_with_a_wait(self):
        self.assertEqual(stuck_robots(WAIT_TOO_LONG), [0, 1])
        self.assertIsNone(plan_waits(WAIT_TOO_LONG, 0))
        for limit in (1, 2, 3):
            self.assertEqual(fault_of(plan_waits, WAIT_TOO_LONG, limit), ("TooLong",))

    def test_plans_that_are_not_tried(self):
        # In each of these texts, a wait stands where it makes the plan too long.
        longer = WAIT_BEFORE_TOO_LONG.replace("sh: left; empty sh;", "sh: left; wait; empty sh;")
        self.assertEqual(fault_of(find_cycle, longer), ("TooLong",))
        self.assertIsNone(plan_waits(WAIT_BEFORE_TOO_LONG, 0))
        for limit in (1, 2, 3):
            self.assertEqual(plan_waits(WAIT_BEFORE_TOO_LONG, limit)[0], [(0, 0)])
        longer = NO_WAIT_BEFORE_TOO_LONG.replace("{\n  right; sb:", "{\n  wait; right; sb:")
        self.assertEqual(fault_of(find_cycle, longer), ("TooLong",))
        for limit in range(4):
            self.assertEqual(plan_waits(NO_WAIT_BEFORE_TOO_LONG, limit)[0], [])

    def test_plans_that_are_left_out(self):
        # With a further wait, robot 0 would have 21 steps.
        steps = "; ".join(["wait"] * 20) + ";"
        plan = plan_of(FOUR, (0, steps), (3, "right;"))
        self.assertEqual(find_cycle(plan), (0, 20))
        for limit in range(4):
            self.assertIsNone(plan_waits(plan, limit))


class FreeStarts(unittest.TestCase):

    def free_by_single_plans(self, shelf, first, second):
        """Returns the free starts, found by writing the plans."""
        pairs = itertools.permutations(range(len(shelf.split())), 2)
        return [(a, b) for a, b in pairs if not stuck_robots(plan_of(shelf, (a, first), (b, second)))]

    def test_example(self):
        self.assertEqual(free_starts("shelf 0 0 0; robot 0 { wait; } robot 1 { right; left; }"), [(0, 1), (2, 0)])

    def test_all(self):
        pairs = [(0, 1), (0, 2), (1, 0), (1, 2), (2, 0), (2, 1)]
        self.assertEqual(free_starts("shelf 0 0 0; robot 2 { wait; } robot 1 { wait; }"), pairs)
        shelf = "0 0 0 0 0 0 0 0 0 0 0 0"
        pairs = [(first, second) for first in range(12) for second in range(12) if first != second]
        self.assertEqual(free_starts(plan_of(shelf, (3, "wait;"), (7, "a: goto a;"))), pairs)

    def test_none(self):
        for plan in (EXAMPLE, "shelf 0 0 0; robot 0 { right; } robot 1 { left; }",
                     "shelf 0 0 0; robot 0 { wait; } robot 2 { put; }"):
            with self.subTest(plan=plan):
                self.assertEqual(free_starts(plan), [])

    def test_some(self):
        # Robot 0 needs a free cell on its right, and robot 1 a box.
        self.assertEqual(free_starts(plan_of("0 2 0 0", (0, "right; left;"), (1, "pick; put;"))), [(2, 1)])
        self.assertEqual(free_starts(plan_of("0 2 0 1", (0, "right; left;"), (1, "pick; put;"))),
                         [(0, 3), (1, 3), (2, 1)])
        self.assertEqual(free_starts(plan_of("0 2 0 1", (0, "pick; put;"), (1, "right; left;"))),
                         [(1, 2), (3, 0), (3, 1)])

    def test_the_given_starts_do_not_matter(self):
        for first, second in itertools.permutations(range(4), 2):
            with self.subTest(first=first, second=second):
                self.assertEqual(free_starts(plan_of("0 2 0 1", (first, "right; left;"), (second, "pick; put;"))),
                                 [(0, 3), (1, 3), (2, 1)])

    def test_by_single_plans(self):
        for shelf, first, second in (
            ("0 1 0 3", "right; left; left; right;", "wait; left; right; wait; right; left;"),
            ("1 0 2 0 1", "pick; right; put; left;", "a: empty b; pick; b: left; held a; right;"),
            ("0 0 1 1 0 0", "a: empty b; wait; b: right; left; goto a;", "left; right; right; left;"),
            ("0 0 0 0 0 0 0 0 0 0 0 0", RIGHT_AND_BACK, LEFT_AND_BACK),
        ):
            with self.subTest(shelf=shelf):
                expected = self.free_by_single_plans(shelf, first, second)
                self.assertEqual(free_starts(plan_of(shelf, (0, first), (1, second))), expected)
                self.assertEqual(expected, sorted(expected))

    def test_kinds_of_results(self):
        result = free_starts("shelf 0 0 0; robot 0 { wait; } robot 1 { right; left; }")
        self.assertEqual((type(result), type(result[0]), type(result[0][0])), (list, tuple, int))

    def test_too_long(self):
        for plan in (JUST_TOO_LONG, TOO_LATE_STANDSTILL, FAR_TOO_LONG):
            self.assertEqual(fault_of(free_starts, plan), ("TooLong",))

    def test_other_starts_too_long(self):
        self.assertEqual(find_cycle(OTHER_STARTS_TOO_LONG), (37, 315))
        self.assertEqual(stuck_robots(OTHER_STARTS_TOO_LONG), [])
        self.assertEqual(fault_of(free_starts, OTHER_STARTS_TOO_LONG), ("TooLong",))

    def test_plans(self):
        self.assertEqual(fault_of(free_starts, "shelf ?"), ("SyntaxFault", 0, 6))
        self.assertEqual(fault_of(free_starts, True), ("SyntaxFault", 0, 0))
        self.assertEqual(fault_of(free_starts, "shelf 0 0 0; robot 3 { wait; } robot 1 { wait; }"),
                         ("CheckFault", "start", 0, 19))
        # The starts of the plan do not matter, but they must be allowed.
        self.assertEqual(fault_of(free_starts, "shelf 0 0 0; robot 1 { wait; } robot 1 { wait; }"),
                         ("CheckFault", "same", 0, 37))


class Interface(unittest.TestCase):

    def test_names_and_arguments(self):
        for name, arguments in (("plan_waits", ["plan", "limit"]), ("free_starts", ["plan"])):
            with self.subTest(name=name):
                function = getattr(planning, name)
                self.assertEqual(function.__module__, "shelfbots.planning")
                self.assertEqual(list(inspect.signature(function).parameters), arguments)


if __name__ == "__main__":
    unittest.main()
