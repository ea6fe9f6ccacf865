"""Reads the tokens of a plan by the grammar (point 2 of the document)."""

from shelfbots.errors import SyntaxFault
from shelfbots.lexer import COMMANDS, END, JUMPS, NAME, NUMBER, read_tokens


class PlanTokens:
    """The tokens of a plan that the checks need."""

    def __init__(self, keyword, numbers, robots):
        self.keyword = keyword
        self.numbers = numbers
        self.robots = robots


class RobotTokens:
    """The number of the cell in which a robot starts, and its steps."""

    def __init__(self, start, steps):
        self.start = start
        self.steps = steps


class StepTokens:
    """The command of a step; the label and the target may be None."""

    def __init__(self, label, command, target):
        self.label = label
        self.command = command
        self.target = target

    def first(self):
        """Returns the first token of the step."""
        return self.command if self.label is None else self.label


class Parser:
    """Takes the tokens of a plan one after another."""

    def __init__(self, tokens):
        self.tokens = tokens
        self.at = 0

    def next_kind(self):
        """Returns the kind of the token that comes next."""
        return self.tokens[self.at].kind

    def take(self, *kinds):
        """Returns the token that comes next, which must be of one of the kinds."""
        token = self.tokens[self.at]
        if token.kind not in kinds:
            raise SyntaxFault(token.line, token.column)
        self.at += 1
        return token

    def take_plan(self):
        """Takes all tokens of a plan."""
        keyword = self.take("shelf")
        numbers = [self.take(NUMBER)]
        while self.next_kind() == NUMBER:
            numbers.append(self.take(NUMBER))
        self.take(";")
        robots = [self.take_robot(), self.take_robot()]
        self.take(END)
        return PlanTokens(keyword, numbers, robots)

    def take_robot(self):
        """Takes the tokens of a robot."""
        self.take("robot")
        start = self.take(NUMBER)
        self.take("{")
        steps = [self.take_step()]
        while self.next_kind() != "}":
            steps.append(self.take_step())
        self.take("}")
        return RobotTokens(start, steps)

    def take_step(self):
        """Takes the tokens of a step."""
        label = None
        if self.next_kind() == NAME:
            label = self.take(NAME)
            self.take(":")
        command = self.take(*COMMANDS)
        target = None
        if command.kind in JUMPS:
            target = self.take(NAME)
        self.take(";")
        return StepTokens(label, command, target)


def parse_plan(text):
    """Returns the tokens of a text that follows the grammar."""
    return Parser(read_tokens(text)).take_plan()
