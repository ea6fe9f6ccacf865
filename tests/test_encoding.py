"""Point 11: encode and decode."""

import copy
import inspect
import unittest

from shelfbots import encoding
from shelfbots.encoding import decode, encode
from shelfbots.formatter import format_plan
from tests.helpers import EXAMPLE, JUST_TOO_LONG, NOT_INTEGERS_NOT_STRINGS, fault_of, plan_of
from tests.slow import random_plan, text_of

EXAMPLE_CODE = [83, 3, 0, 1, 0, 0, 1, 1, 2, 1, 4, 96]
ALL_COMMANDS = plan_of("3 0 1 2", (3, "a: left; right; b: pick; put; wait; goto b; empty a; held c; c: wait;"),
                       (0, "x: wait; held x;"))
# The steps of robot 0 stand at the places 8 to 19, those of robot 1 at 22 to 24.
ALL_COMMANDS_CODE = [83, 4, 3, 0, 1, 2, 3, 9, 0, 1, 2, 3, 4, 5, 2, 6, 0, 7, 8, 4, 0, 2, 4, 7, 0]
NOT_BYTES = (*NOT_INTEGERS_NOT_STRINGS, -1, -2, -256, 256, 257, 339, 10 ** 30, "", "0", "83", "S")
RANDOM_PLANS = [text_of(random_plan(seed)) for seed in range(60)]


def with_checksum(code):
    """Returns a list of bytes with their checksum behind them."""
    return [*code, sum(code) % 256]


def place_of(code):
    """Returns the place of the error that decode raises for a list, or None."""
    fault = fault_of(decode, code)
    if fault is None:
        return None
    assert fault[0] == "InvalidCode" and len(fault) == 2, fault
    return fault[1]


def allowed_bytes(code):
    """Returns the bytes that a plan may have at each place of a valid list, by the words of the document."""
    many = code[1]
    allowed = [[83], range(3, 13)] + [range(4)] * many
    first = code[len(allowed)]
    for cells in (range(many), [cell for cell in range(many) if cell != first]):
        allowed += [cells, range(1, 21)]
        steps = code[len(allowed) - 1]
        for _ in range(steps):
            allowed.append(range(8))
            if code[len(allowed) - 1] > 4:
                allowed.append(range(steps))
    return [*allowed, [sum(code[:-1]) % 256]]


class Encode(unittest.TestCase):

    def test_example(self):
        self.assertEqual(encode("shelf 0 1 0; robot 0 { right; } robot 2 { wait; }"), EXAMPLE_CODE)

    def test_each_command(self):
        self.assertEqual(encode(ALL_COMMANDS), with_checksum(ALL_COMMANDS_CODE))

    def test_largest_numbers(self):
        plan = plan_of("3 3 3 3 3 3 3 3 3 3 3 3", (11, "wait; " * 19 + "a: goto a;"), (10, "a: held a;" + "wait;" * 19))
        code = [83, 12, *[3] * 12, 11, 20, *[4] * 19, 5, 19, 10, 20, 7, 0, *[4] * 19]
        self.assertEqual(encode(plan), with_checksum(code))

    def test_checksum_is_taken_modulo_256(self):
        for many in range(1, 21):
            plan = plan_of("3 3 3 3 3 3", (0, "a: held a;" + "held a;" * (many - 1)), (1, "wait;"))
            code = [83, 6, *[3] * 6, 0, many, *[7, 0] * many, 1, 1, 4]
            self.assertEqual(encode(plan), [*code, (107 + 8 * many + 6) % 256])

    def test_same_as_written_from_the_numbers(self):
        numbers = {word: number for number, word in enumerate(
            ("left", "right", "pick", "put", "wait", "goto", "empty", "held"))}
        for seed in range(60):
            boxes, robots = random_plan(seed)
            code = [83, len(boxes), *boxes]
            for cell, steps in robots:
                code += [cell, len(steps)]
                for word, target in steps:
                    code += [numbers[word]] if target is None else [numbers[word], target]
            self.assertEqual(encode(RANDOM_PLANS[seed]), with_checksum(code))

    def test_kind(self):
        code = encode(ALL_COMMANDS)
        self.assertIs(type(code), list)
        self.assertEqual({type(byte) for byte in code}, {int})

    def test_plans(self):
        self.assertEqual(fault_of(encode, "shelf ?"), ("SyntaxFault", 0, 6))
        for value in (*NOT_INTEGERS_NOT_STRINGS, 83, EXAMPLE_CODE):
            self.assertEqual(fault_of(encode, value), ("SyntaxFault", 0, 0))
        self.assertEqual(fault_of(encode, "shelf 1 0 0; robot 0 { wait; } robot 0 { wait; }"),
                         ("CheckFault", "same", 0, 37))
        self.assertEqual(fault_of(encode, plan_of("0 0 0", (0, "goto b; a: wait;"), (1, "wait;"))),
                         ("CheckFault", "unknown", 0, 28))

    def test_plans_that_do_not_repeat_early(self):
        self.assertEqual(decode(encode(JUST_TOO_LONG)), format_plan(JUST_TOO_LONG))


class Decode(unittest.TestCase):

    def test_example(self):
        self.assertEqual(decode(EXAMPLE_CODE), "shelf 0 1 0;\nrobot 0 {\n  right;\n}\nrobot 2 {\n  wait;\n}")
        self.assertEqual(fault_of(decode, [83, 2]), ("InvalidCode", 1))

    def test_jumps(self):
        self.assertEqual(decode(with_checksum(ALL_COMMANDS_CODE)), format_plan(ALL_COMMANDS))
        self.assertIn("\n  sc: pick;", decode(with_checksum(ALL_COMMANDS_CODE)))
        # Each target that is a step, the last one and the jump itself included, is accepted.
        for command in (5, 6, 7):
            for target in range(4):
                code = with_checksum([83, 3, 0, 0, 0, 0, 4, 4, command, target, 4, 4, 1, 1, 4])
                self.assertEqual(encode(decode(code)), code)

    def test_returns_the_canonical_text(self):
        for plan in (EXAMPLE, ALL_COMMANDS, *RANDOM_PLANS):
            code = encode(plan)
            self.assertEqual(decode(code), format_plan(plan))
            self.assertEqual(encode(decode(code)), code)

    def test_argument_is_not_modified(self):
        code = encode(EXAMPLE)
        decode(code)
        self.assertEqual(code, encode(EXAMPLE))
        for code in ([], [83, [3]], [83, 3, [1, [2]]], [83, 3, 0, 0, 0, 0, 21], [*EXAMPLE_CODE, [1]]):
            before = copy.deepcopy(code)
            self.assertIsNotNone(place_of(code))
            self.assertEqual(code, before)

    def test_returned_lists_may_be_modified(self):
        code = encode(EXAMPLE)
        other = encode(EXAMPLE)
        self.assertIsNot(code, other)
        code[2] = 3
        code[-1] += 2
        self.assertEqual(other, encode(EXAMPLE))
        self.assertEqual(decode(code), format_plan(EXAMPLE.replace("shelf 1", "shelf 3")))
        code.clear()
        self.assertEqual(encode(EXAMPLE), other)


class InvalidCodes(unittest.TestCase):

    def test_no_list(self):
        for value in (None, True, False, 0, 83, "", "83", (), tuple(EXAMPLE_CODE), (EXAMPLE_CODE,)):
            self.assertEqual(fault_of(decode, value), ("InvalidCode", 0))

    def test_missing_bytes(self):
        for plan in (EXAMPLE, ALL_COMMANDS, *RANDOM_PLANS):
            code = encode(plan)
            for many in range(len(code)):
                self.assertEqual(place_of(code[:many]), many)

    def test_superfluous_bytes(self):
        for plan in (EXAMPLE, ALL_COMMANDS, *RANDOM_PLANS):
            code = encode(plan)
            for more in ([0], [255], [83], [None], [True], [-1], [sum(code) % 256], code):
                self.assertEqual(place_of([*code, *more]), len(code))

    def test_values_that_are_no_bytes(self):
        code = with_checksum(ALL_COMMANDS_CODE)
        for place in range(len(code) + 1):
            for value in NOT_BYTES:
                self.assertEqual(place_of([*code[:place], value, *code[place + 1:]]), place)
                self.assertEqual(place_of([*code[:place], value]), place)

    def test_true_and_false_are_no_bytes(self):
        for place, byte in enumerate(EXAMPLE_CODE):
            if byte in (0, 1):
                self.assertEqual(place_of([*EXAMPLE_CODE[:place], bool(byte), *EXAMPLE_CODE[place + 1:]]), place)
        # The sums of these lists are 256 and 257.
        for checksum, target in ((0, 4), (1, 5)):
            code = [83, 3, 0, 0, 0, 0, 20, 7, target, *[7, 0] * 19, 1, 1, 4]
            self.assertIsNone(place_of([*code, checksum]))
            self.assertEqual(place_of([*code, bool(checksum)]), len(code))

    def test_each_other_byte_at_each_place(self):
        for plan in (EXAMPLE, ALL_COMMANDS, *RANDOM_PLANS[:8]):
            code = encode(plan)
            for place, allowed in enumerate(allowed_bytes(code)):
                for byte in range(256):
                    changed = [*code[:place], byte, *code[place + 1:]]
                    with self.subTest(plan=plan, place=place, byte=byte):
                        if byte == code[place]:
                            self.assertIsNone(place_of(changed))
                        elif byte not in allowed:
                            self.assertEqual(place_of(changed), place)
                            self.assertEqual(place_of(changed[:place + 1]), place)
                        else:
                            # The byte itself is possible, so a later one is wrong, at the latest the checksum.
                            self.assertGreater(place_of(changed), place)
                            self.assertEqual(place_of(changed[:place + 1]), place + 1)

    def test_first_byte(self):
        self.assertEqual(place_of([]), 0)
        self.assertEqual(place_of([82]), 0)
        self.assertEqual(place_of([84, *EXAMPLE_CODE[1:]]), 0)

    def test_number_of_cells(self):
        for many in (0, 1, 2, 13, 14, 255):
            self.assertEqual(place_of([83, many, *[0] * many, 0, 1, 4, 1, 1, 4]), 1)
        for many in range(3, 13):
            self.assertIsNone(place_of(with_checksum([83, many, *[0] * many, 0, 1, 4, many - 1, 1, 4])))

    def test_boxes(self):
        for place in (2, 3, 4):
            for boxes in (4, 5, 255):
                code = [83, 3, 0, 0, 0, 0, 1, 4, 1, 1, 4]
                code[place] = boxes
                self.assertEqual(place_of(with_checksum(code)), place)

    def test_starts(self):
        for start in (3, 4, 11, 255):
            self.assertEqual(place_of(with_checksum([83, 3, 0, 0, 0, start, 1, 4, 1, 1, 4])), 5)
            self.assertEqual(place_of(with_checksum([83, 3, 0, 0, 0, 0, 1, 4, start, 1, 4])), 8)
        for start in range(3):
            self.assertEqual(place_of(with_checksum([83, 3, 0, 0, 0, start, 1, 4, start, 1, 4])), 8)

    def test_numbers_of_steps(self):
        for many in (0, 21, 22, 255):
            self.assertEqual(place_of(with_checksum([83, 3, 0, 0, 0, 0, many, *[4] * many, 1, 1, 4])), 6)
            self.assertEqual(place_of(with_checksum([83, 3, 0, 0, 0, 0, 1, 4, 1, many, *[4] * many])), 9)
        for many in (1, 20):
            self.assertIsNone(place_of(with_checksum([83, 3, 0, 0, 0, 0, many, *[4] * many, 1, 1, 4])))
            self.assertIsNone(place_of(with_checksum([83, 3, 0, 0, 0, 0, 1, 4, 1, many, *[4] * many])))

    def test_commands(self):
        for command in (8, 9, 255):
            self.assertEqual(place_of(with_checksum([83, 3, 0, 0, 0, 0, 2, 4, command, 1, 1, 4])), 8)
            self.assertEqual(place_of(with_checksum([83, 3, 0, 0, 0, 0, 1, 4, 1, 1, command])), 10)

    def test_targets(self):
        for command in (5, 6, 7):
            # Robot 0 has two steps and robot 1 has three: the steps of the same robot count.
            for target in (2, 3, 255):
                self.assertEqual(place_of(with_checksum([83, 3, 0, 0, 0, 0, 2, command, target, 4, 1, 3, 4, 4, 4])), 8)
            for target in (3, 255):
                self.assertEqual(place_of(with_checksum([83, 3, 0, 0, 0, 0, 2, 4, 4, 1, 3, 4, command, target, 4])), 13)
            self.assertIsNone(place_of(with_checksum([83, 3, 0, 0, 0, 0, 2, 4, 4, 1, 3, 4, command, 2, 4])))

    def test_checksum(self):
        for plan in (EXAMPLE, ALL_COMMANDS, *RANDOM_PLANS[:20]):
            code = encode(plan)
            for byte in range(256):
                expected = None if byte == code[-1] else len(code) - 1
                self.assertEqual(place_of([*code[:-1], byte]), expected)

    def test_checksum_of_a_list_with_a_larger_sum(self):
        code = [83, 3, 3, 3, 3, 2, 20, *[7, 19] * 20, 1, 20, *[7, 19] * 20]
        self.assertGreater(sum(code), 1024)
        self.assertIsNone(place_of(with_checksum(code)))
        self.assertEqual(place_of([*code, sum(code)]), len(code))
        self.assertEqual(place_of([*code, (sum(code) + 1) % 256]), len(code))

    def test_first_of_several_places(self):
        self.assertEqual(place_of([83, 3, 0, 4, 9, None]), 3)
        self.assertEqual(place_of([83, 3, 0, 1, 0, 0, 1, 8, 2, 1, 4, 0, 0, 0]), 7)
        self.assertEqual(place_of([*EXAMPLE_CODE[:-1], 97, 0]), 11)


class Interface(unittest.TestCase):

    def test_names_and_arguments(self):
        for name, arguments in (("encode", ["plan"]), ("decode", ["code"])):
            with self.subTest(name=name):
                function = getattr(encoding, name)
                self.assertEqual(function.__module__, "shelfbots.encoding")
                self.assertEqual(list(inspect.signature(function).parameters), arguments)


if __name__ == "__main__":
    unittest.main()
