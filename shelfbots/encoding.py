"""Plans as lists of bytes (point 11 of the document)."""

from shelfbots.errors import InvalidCode
from shelfbots.formatter import plan_text
from shelfbots.lexer import COMMANDS, JUMPS
from shelfbots.limits import is_number
from shelfbots.plans import FEWEST_CELLS, MOST_BOXES, MOST_CELLS, MOST_STEPS, Plan, read_plan

FIRST_BYTE = 83


def encode(plan):
    """Returns a plan as a list of bytes."""
    checked = read_plan(plan)
    code = [FIRST_BYTE, len(checked.boxes), *checked.boxes]
    for start, steps in zip(checked.first_cells, checked.steps):
        code.extend([start, len(steps)])
        for word, target in steps:
            code.append(COMMANDS.index(word))
            if target is not None:
                code.append(target)
    code.append(checksum(code))
    return code


def decode(code):
    """Returns the canonical text of the plan of a list of bytes."""
    if not isinstance(code, list):
        raise InvalidCode(0)
    return plan_text(CodeReader(code).take_plan())


def checksum(code):
    """Returns the byte that stands behind the bytes of a plan."""
    return sum(code) % 256


class CodeReader:
    """Takes the bytes of a plan one after another."""

    def __init__(self, code):
        self.code = code
        self.at = 0

    def take_plan(self):
        """Takes all bytes of a plan."""
        self.take_byte([FIRST_BYTE])
        many = self.take_byte(list(range(FEWEST_CELLS, MOST_CELLS + 1)))
        boxes = [self.take_below(MOST_BOXES + 1) for _ in range(many)]
        first = self.take_below(many)
        first_steps = self.take_steps()
        second = self.take_byte([cell for cell in range(many) if cell != first])
        second_steps = self.take_steps()
        self.take_byte([checksum(self.code[:self.at])])
        if self.at < len(self.code):
            raise InvalidCode(self.at)
        return Plan(boxes, (first, second), (first_steps, second_steps))

    def take_steps(self):
        """Takes the number of the steps of a robot and its steps."""
        many = self.take_byte(list(range(1, MOST_STEPS + 1)))
        steps = []
        for _ in range(many):
            word = COMMANDS[self.take_below(len(COMMANDS))]
            target = self.take_below(many) if word in JUMPS else None
            steps.append((word, target))
        return steps

    def take_below(self, limit):
        """Takes the next byte, which must be less than a limit."""
        return self.take_byte(list(range(limit)))

    def take_byte(self, allowed):
        """Takes the next byte, which must be one of those that are allowed."""
        if self.at == len(self.code):
            raise InvalidCode(self.at)
        byte = self.code[self.at]
        if not is_number(byte) or byte not in allowed:
            raise InvalidCode(self.at)
        self.at += 1
        return byte
