"""Point 3: CheckFault."""

import unittest

from shelfbots.formatter import count_steps, format_plan
from shelfbots.machine import boxes, cells, find_cycle, holding, trace
from tests.helpers import fault_of, plan_of

WAITS = (2, "wait;")


def fault(text):
    return fault_of(format_plan, text)


def lines(shelf, first, second):
    """Returns a plan of five lines: the shelf, and for each robot its start and its steps."""
    return f"{shelf}\nrobot {first[0]} {{\n{first[1]}}}\nrobot {second[0]} {{\n{second[1]}}}"


def three_cells(first, second):
    return lines("shelf 0 0 0;", first, second)


class Cells(unittest.TestCase):

    def test_fewer_than_three(self):
        for shelf in ("0", "3", "0 0", "1 2"):
            with self.subTest(shelf=shelf):
                self.assertEqual(fault(f"\n  shelf {shelf}; robot 0 {{ wait; }} robot 1 {{ wait; }}"),
                                 ("CheckFault", "cells", 1, 2))

    def test_more_than_twelve(self):
        for many in (13, 14, 20, 300):
            with self.subTest(many=many):
                self.assertEqual(fault(f"shelf {'0 ' * many}; robot 0 {{ wait; }} robot 1 {{ wait; }}"),
                                 ("CheckFault", "cells", 0, 30))

    def test_thirteenth_in_another_line(self):
        text = "shelf 0 1 2 3 0 1 2 3\n0 1 2 3\n   0 0; robot 0 { wait; } robot 1 { wait; }"
        self.assertEqual(fault(text), ("CheckFault", "cells", 2, 3))

    def test_three_to_twelve(self):
        for many in range(3, 13):
            with self.subTest(many=many):
                plan = plan_of(" ".join(["3"] * many), (0, "wait;"), (many - 1, "wait;"))
                self.assertIsNone(fault(plan))
                self.assertEqual(boxes(plan, 0), [3] * many)


class Boxes(unittest.TestCase):

    def test_more_than_three(self):
        for number in (4, 5, 9, 10, 30, 99):
            for shelf, column in ((f"{number} 0 0", 6), (f"0 {number} 0", 8), (f"3 3 3 {number}", 12)):
                with self.subTest(shelf=shelf):
                    self.assertEqual(fault(plan_of(shelf, (0, "wait;"), WAITS)), ("CheckFault", "boxes", 0, column))

    def test_first_of_two(self):
        self.assertEqual(fault(plan_of("0 4 5", (0, "wait;"), WAITS)), ("CheckFault", "boxes", 0, 8))

    def test_twelfth_cell(self):
        shelf = "0 0 0 0 0 0 0 0 0 0 0 4"
        self.assertEqual(fault(plan_of(shelf, (0, "wait;"), WAITS)), ("CheckFault", "boxes", 0, 28))

    def test_up_to_three(self):
        for number in (0, 1, 2, 3):
            with self.subTest(number=number):
                self.assertIsNone(fault(plan_of(f"{number} 0 {number}", (0, "wait;"), WAITS)))


class Starts(unittest.TestCase):

    def test_not_a_cell(self):
        for number in (3, 4, 12, 99):
            with self.subTest(number=number):
                self.assertEqual(fault(three_cells((number, "wait;"), WAITS)), ("CheckFault", "start", 1, 6))
                self.assertEqual(fault(three_cells((0, "wait;"), (number, "wait;"))),
                                 ("CheckFault", "start", 3, 6))
                self.assertEqual(fault(three_cells((number, "wait;"), (number, "wait;"))),
                                 ("CheckFault", "start", 1, 6))

    def test_same_cell(self):
        for number in (0, 1, 2):
            with self.subTest(number=number):
                self.assertEqual(fault(three_cells((number, "wait;"), (number, "wait;"))),
                                 ("CheckFault", "same", 3, 6))

    def test_all_pairs_of_cells(self):
        shelf = "0 0 0 0 0 0 0 0 0 0 0 0"
        for first in range(12):
            for second in range(12):
                plan = plan_of(shelf, (first, "wait;"), (second, "wait;"))
                with self.subTest(first=first, second=second):
                    if first != second:
                        self.assertIsNone(fault(plan))
                        self.assertEqual(cells(plan, 0), (first, second))
                    else:
                        self.assertEqual(fault(plan)[1], "same")

    def test_example(self):
        self.assertEqual(fault("shelf 1 0 0; robot 3 { wait; } robot 2 { wait; }"), ("CheckFault", "start", 0, 19))


class Steps(unittest.TestCase):

    def test_more_than_twenty(self):
        for many in (21, 22, 40, 200):
            with self.subTest(many=many):
                self.assertEqual(fault(three_cells((0, "wait;" * many), WAITS)), ("CheckFault", "steps", 2, 100))
                self.assertEqual(fault(three_cells((0, "wait;"), (2, "wait;" * many))),
                                 ("CheckFault", "steps", 4, 100))

    def test_first_token_of_the_step(self):
        steps = "wait;" * 20 + "  a: wait;"
        self.assertEqual(fault(three_cells((0, steps), WAITS)), ("CheckFault", "steps", 2, 102))
        steps = "a: wait;" * 1 + "wait;" * 19 + "\n goto a;"
        self.assertEqual(fault(three_cells((0, steps), WAITS)), ("CheckFault", "steps", 3, 1))

    def test_up_to_twenty(self):
        for many in range(1, 21):
            with self.subTest(many=many):
                plan = three_cells((0, "wait;" * many), (2, "wait;" * (21 - many)))
                self.assertEqual(count_steps(plan), (many, 21 - many))
        plan = three_cells((0, "wait;" * 20), (2, "wait;" * 20))
        self.assertEqual(count_steps(plan), (20, 20))


class Labels(unittest.TestCase):

    def test_duplicate(self):
        steps = "a: wait; b: wait; wait;   b: goto a; a: wait;"
        self.assertEqual(fault(three_cells((0, steps), WAITS)), ("CheckFault", "duplicate", 2, 26))
        self.assertEqual(fault(three_cells((0, "wait;"), (2, steps))), ("CheckFault", "duplicate", 4, 26))

    def test_duplicate_in_adjacent_steps(self):
        self.assertEqual(fault(three_cells((0, "a: wait; a: wait;"), WAITS)), ("CheckFault", "duplicate", 2, 9))

    def test_both_robots_may_have_a_label(self):
        self.assertIsNone(fault(three_cells((0, "a: wait; goto a;"), (2, "wait; a: goto a;"))))

    def test_unknown(self):
        for word in ("goto", "empty", "held"):
            with self.subTest(word=word):
                steps = f"a: wait; {word}  b;"
                column = 11 + len(word)
                self.assertEqual(fault(three_cells((0, steps), WAITS)), ("CheckFault", "unknown", 2, column))
                self.assertEqual(fault(three_cells((0, "wait;"), (2, steps))), ("CheckFault", "unknown", 4, column))

    def test_labels_of_the_other_robot_are_unknown(self):
        self.assertEqual(fault(three_cells((0, "a: wait;"), (2, "goto a;"))), ("CheckFault", "unknown", 4, 5))
        self.assertEqual(fault(three_cells((0, "goto a;"), (2, "a: wait;"))), ("CheckFault", "unknown", 2, 5))

    def test_canonical_labels_are_not_known_by_themselves(self):
        self.assertEqual(fault(three_cells((0, "wait; goto sa;"), WAITS)), ("CheckFault", "unknown", 2, 11))

    def test_names_fit_as_a_whole(self):
        self.assertEqual(fault(three_cells((0, "ab: wait; goto a;"), WAITS)), ("CheckFault", "unknown", 2, 15))
        self.assertEqual(fault(three_cells((0, "a: wait; goto ab;"), WAITS)), ("CheckFault", "unknown", 2, 14))

    def test_labels_may_stand_anywhere(self):
        self.assertIsNone(fault(three_cells((0, "goto b; a: held a; b: empty a;"), WAITS)))

    def test_twenty_labels(self):
        names = [f"{letter}bcdefgh" for letter in "abcdefghijklmnopqrst"]
        steps = " ".join([f"{name}: empty {other};" for name, other in zip(names, reversed(names))])
        self.assertIsNone(fault(three_cells((0, steps), (2, steps))))


class SeveralErrors(unittest.TestCase):

    def test_first_in_the_text(self):
        long_way = "wait;" * 21
        plans = (
            ("shelf 9 9; robot 5 { goto a; } robot 5 { wait; }", ("cells", 0, 0)),
            ("shelf 0 4 0 0 0 0 0 0 0 0 0 0 0; robot 0 { wait; } robot 0 { wait; }", ("boxes", 0, 8)),
            ("shelf 0 0 0 0 0 0 0 0 0 0 0 0 0 4; robot 0 { wait; } robot 0 { wait; }", ("cells", 0, 30)),
            ("shelf 0 0 4; robot 3 { wait; } robot 3 { wait; }", ("boxes", 0, 10)),
            ("shelf 0 0 0; robot 3 { goto a; } robot 3 { wait; }", ("start", 0, 19)),
            ("shelf 0 0 0; robot 0 { goto a; } robot 0 { wait; }", ("unknown", 0, 28)),
            ("shelf 0 0 0; robot 0 { wait; } robot 0 { goto a; }", ("same", 0, 37)),
            ("shelf 0 0 0; robot 0 { wait; } robot 9 { goto a; }", ("start", 0, 37)),
            (f"shelf 0 0 0; robot 0 {{ {long_way} }} robot 0 {{ wait; }}", ("steps", 0, 123)),
            ("shelf 0 0 0; robot 0 { a: wait; a: goto b; } robot 2 { wait; }", ("duplicate", 0, 32)),
            ("shelf 0 0 0; robot 0 { a: goto b; a: wait; } robot 2 { wait; }", ("unknown", 0, 31)),
            (f"shelf 0 0 0; robot 0 {{ goto a; {long_way} }} robot 2 {{ wait; }}", ("unknown", 0, 28)),
            ("shelf 0 0 0; robot 0 { a: wait; a: wait; } robot 2 { goto b; }", ("duplicate", 0, 32)),
        )
        for plan, (reason, line, column) in plans:
            with self.subTest(plan=plan):
                self.assertEqual(fault(plan), ("CheckFault", reason, line, column))

    def test_lines_count_more_than_columns(self):
        self.assertEqual(fault(three_cells((0, "            goto a;\n b: wait; b: wait;"), WAITS)),
                         ("CheckFault", "unknown", 2, 17))

    def test_two_at_the_number_of_the_thirteenth_cell(self):
        text = "shelf 0 0 0 0 0 0 0 0 0 0 0 0 4; robot 0 { wait; } robot 1 { wait; }"
        self.assertEqual(fault(text), ("CheckFault", "cells", 0, 30))

    def test_two_at_the_label_of_the_21st_step(self):
        steps = "a: wait;" + "wait;" * 19 + "a: wait;"
        self.assertEqual(fault(three_cells((0, steps), WAITS)), ("CheckFault", "steps", 2, 103))
        self.assertEqual(fault(three_cells((0, "wait;"), (2, steps))), ("CheckFault", "steps", 4, 103))

    def test_labels_of_superfluous_steps_are_known(self):
        steps = "goto a;" + "wait;" * 19 + "a: wait;"
        self.assertEqual(fault(three_cells((0, steps), WAITS)), ("CheckFault", "steps", 2, 102))

    def test_grammar_comes_first(self):
        self.assertEqual(fault("shelf 9 9; robot 5 { goto a; } robot 5 { wait }"), ("SyntaxFault", 0, 46))
        self.assertEqual(fault("shelf 9 9; robot 5 { goto a; } robot 5 { wait; } ?"), ("SyntaxFault", 0, 49))


class AllFunctions(unittest.TestCase):

    def test_each_function_raises_check_faults(self):
        calls = [format_plan, count_steps, find_cycle]
        calls += [lambda plan, call=call: call(plan, 0) for call in (cells, boxes, holding)]
        calls.append(lambda plan: list(trace(plan, 0, 0)))
        for number, call in enumerate(calls):
            with self.subTest(number=number):
                self.assertEqual(fault_of(call, "\n shelf 0 0; robot 0 { wait; } robot 1 { wait; }"),
                                 ("CheckFault", "cells", 1, 1))
                self.assertEqual(fault_of(call, three_cells((0, "wait;"), (2, "goto a;"))),
                                 ("CheckFault", "unknown", 4, 5))


if __name__ == "__main__":
    unittest.main()
