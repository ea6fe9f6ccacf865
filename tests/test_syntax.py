"""Point 2: the language of plans and SyntaxFault."""

import unittest

from shelfbots.formatter import count_steps, format_plan
from shelfbots.machine import boxes, cells, find_cycle, holding, trace
from tests.helpers import EXAMPLE, NOT_INTEGERS_NOT_STRINGS, fault_of, plan_of

COMMANDS = ("left", "right", "pick", "put", "wait", "goto", "empty", "held")
STEP = ("name", "command")
# The tokens of a plan that uses each rule of the grammar, with what may stand at the place of each.
TOKENS = (
    ("shelf", ("shelf",)), ("1", ("number",)), ("0", ("number", ";")), ("0", ("number", ";")),
    (";", ("number", ";")),
    ("robot", ("robot",)), ("0", ("number",)), ("{", ("{",)),
    ("wait", STEP), (";", (";",)),
    ("a", (*STEP, "}")), (":", (":",)), ("goto", ("command",)), ("a", ("name",)), (";", (";",)),
    ("empty", (*STEP, "}")), ("a", ("name",)), (";", (";",)),
    ("held", (*STEP, "}")), ("a", ("name",)), (";", (";",)),
    ("}", (*STEP, "}")),
    ("robot", ("robot",)), ("2", ("number",)), ("{", ("{",)),
    ("b", STEP), (":", (":",)), ("put", ("command",)), (";", (";",)),
    ("}", (*STEP, "}")),
)
SAMPLES = [("shelf", "shelf"), ("robot", "robot"), ("name", "b"), ("number", "2")]
SAMPLES += [("command", word) for word in COMMANDS] + [(sign, sign) for sign in ";:{}"]


def fault(text):
    return fault_of(format_plan, text)


def in_plan(steps):
    """Returns a plan with these steps of robot 0, in a line of their own."""
    return "shelf 0 0 0; robot 0 {\n" + steps + "\n} robot 2 { wait; }"


class FittingPlans(unittest.TestCase):

    def test_each_command(self):
        for word in COMMANDS:
            target = " a" if word in ("goto", "empty", "held") else ""
            with self.subTest(word=word):
                self.assertIsNone(fault(in_plan(f"a: wait; {word}{target};")))
                self.assertIsNone(fault(in_plan(f"a: {word}{target};")))

    def test_fewest_spaces(self):
        text = "shelf1 0 0;robot0{a:wait;goto a;}robot2{wait;}"
        self.assertEqual(format_plan(text), "shelf 1 0 0;\nrobot 0 {\n  sa: wait;\n  goto sa;\n}\n"
                                            "robot 2 {\n  wait;\n}")

    def test_words_and_numbers_need_nothing_between_them(self):
        self.assertIsNone(fault("shelf0 0 0;robot0{wait;}robot1{x:wait;empty x;}"))
        self.assertEqual(fault("shelf 0 0 0; robot 0 { a0: wait; } robot 2 { wait; }"), ("SyntaxFault", 0, 24))
        self.assertEqual(fault("shelf 0 0 0; robot 0wait { wait; } robot 2 { wait; }"), ("SyntaxFault", 0, 20))

    def test_any_spaces_and_line_feeds(self):
        words = [word for word, _ in TOKENS]
        expected = format_plan(" ".join(words))
        for space in ("  ", "\n", "\n\n", " \n ", "\n  \n"):
            with self.subTest(space=space):
                self.assertEqual(format_plan(space + space.join(words) + space), expected)

    def test_names(self):
        for name in ("a", "z", "ab", "abcdefgh", "zzzzzzzz", "lef", "lefts", "shelfs", "robots", "gotos", "waiter"):
            with self.subTest(name=name):
                self.assertIsNone(fault(in_plan(f"{name}: goto {name};")))

    def test_numbers_of_two_digits(self):
        # These are tokens: what is wrong with them is told by the checks of point 3.
        for number in ("10", "12", "20", "90", "99"):
            with self.subTest(number=number):
                self.assertEqual(fault(f"shelf 0 0 {number}; robot 0 {{ wait; }} robot 2 {{ wait; }}"),
                                 ("CheckFault", "boxes", 0, 10))


class InvalidTokens(unittest.TestCase):

    def test_characters_that_start_no_token(self):
        for code in [*range(256), 0x2028, 0x0663, 0xFF11, 0x212A, 0x1F4E6]:
            character = chr(code)
            if character in "abcdefghijklmnopqrstuvwxyz0123456789;:{} \n":
                continue
            with self.subTest(code=code):
                self.assertEqual(fault(EXAMPLE + "\n " + character), ("SyntaxFault", 1, 1))
                self.assertEqual(fault(character + EXAMPLE), ("SyntaxFault", 0, 0))

    def test_character_directly_behind_a_token(self):
        self.assertEqual(fault("sHelf 0 0 0;"), ("SyntaxFault", 0, 1))
        self.assertEqual(fault("shelf 0 0 1.5;"), ("SyntaxFault", 0, 11))
        self.assertEqual(fault(in_plan("a_b: wait;")), ("SyntaxFault", 1, 1))
        self.assertEqual(fault(in_plan("wait;%")), ("SyntaxFault", 1, 5))

    def test_only_line_feeds_end_lines(self):
        self.assertEqual(fault(EXAMPLE + "\n\n  \r\n"), ("SyntaxFault", 2, 2))
        self.assertEqual(fault("shelf 0\x0b\n"), ("SyntaxFault", 0, 7))

    def test_long_words(self):
        for word in ("abcdefghi", "aaaaaaaaaaaaaaaa", "leftright", "shelfrobot", "waitwaitwaitwait"):
            with self.subTest(word=word):
                self.assertEqual(fault(in_plan(f"  {word}: wait;")), ("SyntaxFault", 1, 2))
                self.assertEqual(fault(in_plan(f"goto {word};")), ("SyntaxFault", 1, 5))

    def test_invalid_numbers(self):
        for number in ("00", "01", "09", "000", "007", "100", "123", "999", "1000000000"):
            with self.subTest(number=number):
                self.assertEqual(fault(f"shelf 0 0 {number}; robot 0 {{ wait; }} robot 2 {{ wait; }}"),
                                 ("SyntaxFault", 0, 10))
                self.assertEqual(fault(f"shelf 0 0 0;\nrobot {number} {{ wait; }} robot 2 {{ wait; }}"),
                                 ("SyntaxFault", 1, 6))

    def test_first_of_several(self):
        self.assertEqual(fault("shelf 00 abcdefghi ?"), ("SyntaxFault", 0, 6))
        self.assertEqual(fault("shelf abcdefghi 00 ?"), ("SyntaxFault", 0, 6))
        self.assertEqual(fault("shelf ? 00 abcdefghi"), ("SyntaxFault", 0, 6))
        self.assertEqual(fault("shelf\n\n   ?\n00"), ("SyntaxFault", 2, 3))

    def test_invalid_token_behind_one_that_does_not_fit(self):
        for token in ("A", "abcdefghi", "01", "100"):
            with self.subTest(token=token):
                self.assertEqual(fault("robot shelf\n} } " + token), ("SyntaxFault", 1, 4))
                self.assertEqual(fault(f"{EXAMPLE} ;\n{token}"), ("SyntaxFault", 1, 0))

    def test_not_a_text(self):
        for value in (*NOT_INTEGERS_NOT_STRINGS, 0, 1, -1, 10 ** 30, (EXAMPLE,), [EXAMPLE]):
            with self.subTest(value=value):
                self.assertEqual(fault(value), ("SyntaxFault", 0, 0))


class Grammar(unittest.TestCase):

    def test_first_token_that_does_not_fit(self):
        words = [word for word, _ in TOKENS]
        for place, (_, fitting) in enumerate(TOKENS):
            before = " ".join(words[:place])
            column = len(before) + 3
            for kind, word in SAMPLES:
                if kind not in fitting:
                    with self.subTest(before=before, word=word):
                        self.assertEqual(fault(f"{before}   {word}"), ("SyntaxFault", 0, column))
                        self.assertEqual(fault(f"{before}   {word} {EXAMPLE}"), ("SyntaxFault", 0, column))
                        self.assertEqual(fault(f"{before}\n\n {word}"), ("SyntaxFault", 2, 1))

    def test_fitting_tokens_are_no_faults(self):
        words = [word for word, _ in TOKENS]
        for place, (_, fitting) in enumerate(TOKENS):
            for kind, word in SAMPLES:
                if kind in fitting:
                    text = " ".join([*words[:place], word])
                    if (place, word) != (len(TOKENS) - 1, "}"):
                        with self.subTest(text=text):
                            self.assertEqual(fault(text), ("SyntaxFault", 1, 0))

    def test_plan_that_ends_too_early(self):
        words = [word for word, _ in TOKENS]
        for many in range(1, len(words)):
            with self.subTest(many=many):
                self.assertEqual(fault(" ".join(words[:many])), ("SyntaxFault", 1, 0))
                self.assertEqual(fault("\n".join(words[:many])), ("SyntaxFault", many, 0))
                self.assertEqual(fault("\n".join(words[:many]) + "\n\n"), ("SyntaxFault", many + 2, 0))

    def test_texts_without_tokens(self):
        self.assertEqual(fault(""), ("SyntaxFault", 1, 0))
        self.assertEqual(fault("    "), ("SyntaxFault", 1, 0))
        self.assertEqual(fault("\n"), ("SyntaxFault", 2, 0))
        self.assertEqual(fault(" \n\n  "), ("SyntaxFault", 3, 0))

    def test_more_tokens_behind_the_plan(self):
        for _, word in SAMPLES:
            with self.subTest(word=word):
                self.assertEqual(fault(f"{EXAMPLE} {word}"), ("SyntaxFault", 0, len(EXAMPLE) + 1))
                self.assertEqual(fault(f"{EXAMPLE}\n  {word}"), ("SyntaxFault", 1, 2))

    def test_keywords_are_not_names(self):
        for word in COMMANDS:
            with self.subTest(word=word):
                self.assertEqual(fault(in_plan(f"goto {word};")), ("SyntaxFault", 1, 5))
        for word in ("left", "right", "pick", "put", "wait"):
            with self.subTest(word=word):
                self.assertEqual(fault(in_plan(f"{word}: wait;")), ("SyntaxFault", 1, len(word)))
        for word in ("shelf", "robot"):
            with self.subTest(word=word):
                self.assertEqual(fault(in_plan(f"{word}: wait;")), ("SyntaxFault", 1, 0))
                self.assertEqual(fault(in_plan(f"goto {word};")), ("SyntaxFault", 1, 5))

    def test_example(self):
        self.assertEqual(fault("shelf 1 0 0 robot"), ("SyntaxFault", 0, 12))


class AllFunctions(unittest.TestCase):

    def test_each_function_raises_syntax_faults(self):
        calls = [format_plan, count_steps, find_cycle]
        calls += [lambda plan, call=call: call(plan, 0) for call in (cells, boxes, holding)]
        calls.append(lambda plan: list(trace(plan, 0, 0)))
        for number, call in enumerate(calls):
            with self.subTest(number=number):
                self.assertEqual(fault_of(call, "shelf\n  ?"), ("SyntaxFault", 1, 2))
                self.assertEqual(fault_of(call, "shelf 0\n  }"), ("SyntaxFault", 1, 2))
                self.assertEqual(fault_of(call, "shelf\n"), ("SyntaxFault", 2, 0))
                self.assertEqual(fault_of(call, None), ("SyntaxFault", 0, 0))
                self.assertIsNone(fault_of(call, plan_of("0 0 0", (0, "wait;"), (2, "wait;"))))


if __name__ == "__main__":
    unittest.main()
