"""Point 4: format_plan and count_steps."""

import inspect
import unittest

from shelfbots import formatter
from shelfbots.formatter import count_steps, format_plan
from tests.helpers import EXAMPLE, plan_of


def robot_0(steps):
    """Returns the canonical lines for the steps of robot 0."""
    return format_plan(plan_of("0 0 0", (0, steps), (2, "wait;"))).split("\n")[2:-4]


class FormatPlan(unittest.TestCase):

    def test_examples(self):
        self.assertEqual(format_plan("shelf 1 0 0; robot 0 { here: pick; goto here; } robot 2 { wait; }"),
                         "shelf 1 0 0;\nrobot 0 {\n  sa: pick;\n  goto sa;\n}\nrobot 2 {\n  wait;\n}")
        self.assertEqual(format_plan(EXAMPLE), "shelf 1 0 0;\nrobot 0 {\n  pick;\n  right;\n  put;\n  left;\n}\n"
                                               "robot 2 {\n  wait;\n}")

    def test_other_spaces_and_line_feeds(self):
        expected = "shelf 3 0 2 1;\nrobot 3 {\n  sa: left;\n  empty sa;\n}\nrobot 0 {\n  put;\n}"
        for text in (
            "shelf 3 0 2 1;robot 3{a:left;empty a;}robot 0{put;}",
            "\n\nshelf\n3\n0\n2\n1\n;\nrobot\n3\n{\na\n:\nleft\n;\nempty\na\n;\n}\nrobot\n0\n{\nput\n;\n}\n\n",
            "   shelf 3 0 2 1 ; robot 3 { a : left ; empty a ; } robot 0 { put ; }   ",
            expected,
            expected.replace("sa", "xyz"),
        ):
            with self.subTest(text=text):
                self.assertEqual(format_plan(text), expected)

    def test_labels_that_no_jump_names(self):
        self.assertEqual(robot_0("a: wait; b: pick; c: goto b;"), ["  wait;", "  sb: pick;", "  goto sb;"])
        self.assertEqual(robot_0("sa: wait; sb: pick;"), ["  wait;", "  pick;"])

    def test_labels_that_are_canonical_for_another_step(self):
        self.assertEqual(robot_0("sb: wait; sa: pick; goto sb; held sa;"),
                         ["  sa: wait;", "  sb: pick;", "  goto sa;", "  held sb;"])

    def test_several_jumps_to_one_step(self):
        self.assertEqual(robot_0("goto x; held x; x: empty x;"), ["  goto sc;", "  held sc;", "  sc: empty sc;"])

    def test_labels_of_both_robots(self):
        text = plan_of("0 0 0", (0, "wait; a: wait; goto a;"), (1, "a: wait; b: wait; empty a;"))
        self.assertEqual(format_plan(text), "shelf 0 0 0;\nrobot 0 {\n  wait;\n  sb: wait;\n  goto sb;\n}\n"
                                            "robot 1 {\n  sa: wait;\n  wait;\n  empty sa;\n}")

    def test_a_jump_of_the_other_robot_gives_no_label(self):
        text = plan_of("0 0 0", (0, "a: wait;"), (1, "a: goto a;"))
        self.assertEqual(format_plan(text), "shelf 0 0 0;\nrobot 0 {\n  wait;\n}\nrobot 1 {\n  sa: goto sa;\n}")

    def test_each_command(self):
        steps = "left; right; pick; put; wait; a: goto a; empty a; held a;"
        self.assertEqual(robot_0(steps), ["  left;", "  right;", "  pick;", "  put;", "  wait;", "  sf: goto sf;",
                                          "  empty sf;", "  held sf;"])

    def test_all_twenty_labels(self):
        letters = "abcdefghijklmnopqrst"
        steps = " ".join([f"x{letter}: goto x{letter};" for letter in letters])
        self.assertEqual(robot_0(steps), [f"  s{letter}: goto s{letter};" for letter in letters])

    def test_long_shelf(self):
        text = plan_of("0 1 2 3 0 1 2 3 0 1 2 3", (11, "wait;"), (10, "wait;"))
        self.assertEqual(format_plan(text), "shelf 0 1 2 3 0 1 2 3 0 1 2 3;\nrobot 11 {\n  wait;\n}\n"
                                            "robot 10 {\n  wait;\n}")

    def test_canonical_texts_stay_the_same(self):
        text = format_plan(plan_of("2 0 1", (0, "a: pick; b: held a; goto b;"), (2, "x: left; right; empty x;")))
        self.assertEqual(format_plan(text), text)


class CountSteps(unittest.TestCase):

    def test_example(self):
        self.assertEqual(count_steps(EXAMPLE), (4, 1))

    def test_order_of_the_robots(self):
        self.assertEqual(count_steps(plan_of("0 0 0", (2, "wait;"), (0, "a: wait; wait; goto a;"))), (1, 3))

    def test_kind(self):
        self.assertIs(type(count_steps(EXAMPLE)), tuple)


class Interface(unittest.TestCase):

    def test_names_and_arguments(self):
        for name in ("format_plan", "count_steps"):
            function = getattr(formatter, name)
            self.assertEqual(function.__module__, "shelfbots.formatter")
            self.assertEqual(list(inspect.signature(function).parameters), ["plan"])


if __name__ == "__main__":
    unittest.main()
