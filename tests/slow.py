"""A second, slow program, written without the package, from which the tests know what to expect.

A plan is given as a tuple (boxes, robots), a robot as (cell, steps), and a step as (word, number of a step or None).
"""

import random

JUMPS = ("goto", "empty", "held")
WORDS = ("left", "right", "pick", "put", "wait", *JUMPS)
ARGUMENTS = {"step": 1, "add": 1, "take": 1, "jump": 2, "undo": 0, "redo": 0}


class Refusal(Exception):
    """An operation that a stage must refuse, with what the tests tell of its error."""


def random_plan(seed):
    """Returns a plan that depends on the seed only."""
    choice = random.Random(seed)
    many = choice.randint(3, 6)
    boxes = [choice.choice((0, 0, 1, 1, 2, 3)) for _ in range(many)]
    robots = []
    for cell in choice.sample(range(many), 2):
        count = choice.randint(1, 7)
        steps = [choice.choice(WORDS) for _ in range(count)]
        robots.append((cell, [(word, choice.randrange(count) if word in JUMPS else None) for word in steps]))
    return boxes, robots


def text_of(plan, gap=" ", letter="s", has_all_labels=False):
    """Returns a text of a plan, with a gap between all tokens."""
    return gap.join(tokens_of(plan, letter, has_all_labels))


def tight_text_of(plan, letter="s", has_all_labels=False):
    """Returns a text of a plan, with gaps only where two words or two numbers would become one."""
    text = ""
    for token in tokens_of(plan, letter, has_all_labels):
        before = text[-1:]
        needed = before.isalpha() and token[0].isalpha() or before.isdigit() and token[0].isdigit()
        text += " " + token if needed else token
    return text


def tokens_of(plan, letter, has_all_labels):
    """Returns the tokens of a plan, with labels that begin with a letter, perhaps before steps to which none jumps."""
    boxes, robots = plan
    tokens = ["shelf", *map(str, boxes), ";"]
    for cell, steps in robots:
        tokens += ["robot", str(cell), "{"]
        targets = range(len(steps)) if has_all_labels else [target for _, target in steps]
        for at, (word, target) in enumerate(steps):
            tokens += [letter + chr(97 + at), ":"] if at in targets else []
            tokens += [word, ";"] if target is None else [word, letter + chr(97 + target), ";"]
        tokens.append("}")
    return tokens


def with_starts(plan, first, second):
    """Returns a plan with other cells in which the robots start."""
    boxes, robots = plan
    return boxes, [(first, robots[0][1]), (second, robots[1][1])]


class World:
    """All that is on a shelf."""

    def __init__(self, plan):
        boxes, robots = plan
        self.boxes = list(boxes)
        self.cells = [robot[0] for robot in robots]
        self.steps = [robot[1] for robot in robots]
        self.held = [False, False]
        self.next = [0, 0]
        self.blocked = [0, 0]
        self.passed = 0

    def tick(self):
        self.passed += 1
        return self.turn(0), self.turn(1)

    def turn(self, me):
        word, target = self.steps[me][self.next[me]]
        here = self.cells[me]
        there = here + {"left": -1, "right": 1}.get(word, 0)
        if (not 0 <= there < len(self.boxes) or there == self.cells[1 - me]
                or word == "pick" and (self.held[me] or self.boxes[here] < 1)
                or word == "put" and (not self.held[me] or self.boxes[here] > 2)):
            self.blocked[me] += 1
            return "blocked"
        jumps = {"goto": True, "empty": self.boxes[here] == 0, "held": self.held[me]}.get(word, False)
        self.cells[me] = there
        self.boxes[here] += {"pick": -1, "put": 1}.get(word, 0)
        self.held[me] = {"pick": True, "put": False}.get(word, self.held[me])
        self.next[me] = target if jumps else (self.next[me] + 1) % len(self.steps[me])
        return word

    def do(self, word, *arguments):
        """Does an operation, or raises Refusal."""
        if word == "step":
            return [self.tick() for _ in range(number(arguments[0], 501))]
        if word == "jump":
            robot = number(arguments[0], 2)
            former, self.next[robot] = self.next[robot], number(arguments[1], len(self.steps[robot]))
            return former
        cell = number(arguments[0], len(self.boxes))
        if self.boxes[cell] == {"add": 3, "take": 0}[word]:
            raise Refusal({"add": "CellFull", "take": "CellEmpty"}[word])
        self.boxes[cell] += {"add": 1, "take": -1}[word]
        return self.boxes[cell]

    def told(self):
        """Returns all that can be read of a stage, and the next steps."""
        return (self.passed, tuple(self.cells), self.boxes, tuple(self.held), tuple(self.blocked), tuple(self.next))


def number(value, limit):
    """Returns a value that is a number below a limit, or raises Refusal."""
    if type(value) is not int or not 0 <= value < limit:
        raise Refusal("InvalidNumber")
    return value


class SlowStage:
    """Keeps lists of operations only, and does all of them again for whatever is asked."""

    def __init__(self, plan):
        self.plan = plan
        self.done = []
        self.undone = []
        self.kept = {}

    def after(self, operations):
        """Returns the world after some operations, and the result of the last one."""
        world = World(self.plan)
        result = None
        for operation in operations:
            result = world.do(*operation)
        return world, result

    def do(self, operation):
        """Does an operation of a stage, or raises Refusal."""
        if operation == ("undo",):
            return self.shift(self.done, self.undone)
        if operation == ("redo",):
            return self.shift(self.undone, self.done)
        result = self.after([*self.done, operation])[1]
        self.done.append(operation)
        self.undone.clear()
        return result

    def shift(self, source, target):
        if source:
            target.append(source.pop())
            return True
        return False

    def batch(self, operations):
        """Does all operations, or raises Refusal and has done none."""
        for place, operation in enumerate(operations):
            if len(operation) - 1 != ARGUMENTS.get(operation[0]):
                raise Refusal("InvalidOperation", place)
        before = list(self.done), list(self.undone)
        try:
            return [self.do(operation) for operation in operations]
        except Refusal:
            self.done, self.undone = before
            raise

    def do_or_keep(self, operation):
        """Does an operation, or saves or restores a snapshot, or raises Refusal."""
        methods = {"save": self.save, "restore": self.restore}
        if operation[0] in methods:
            return methods[operation[0]](operation[1])
        return self.do(operation)

    def save(self, name):
        self.kept[name] = list(self.done), list(self.undone)

    def restore(self, name):
        if name not in self.kept:
            raise Refusal("UnknownName")
        self.done, self.undone = map(list, self.kept[name])

    def told(self):
        """Returns all that can be found out about a stage, as stage_told of tests.helpers does."""
        rows = [self.done[:many] for many in range(len(self.done), -1, -1)]
        later = [[*self.done, *self.undone[:-many - 1:-1]] for many in range(1, len(self.undone) + 1)]
        return [(*self.after(row)[0].told(), [operation[0] for operation in row]) for row in [*rows, *later]]


def random_operation(choice, plan):
    """Returns an operation that often can be executed."""
    boxes, robots = plan
    word = choice.choice(("step", "step", "step", "add", "take", "jump", "undo", "redo"))
    if word == "step":
        return (word, choice.choice((0, 1, 1, 2, 3, 5, 17, -1, 501, True, None, "1")))
    if word in ("add", "take"):
        return (word, choice.choice((*range(len(boxes)), *range(len(boxes)), -1, len(boxes), False, [0])))
    if word == "jump":
        robot = choice.choice((0, 0, 0, 1, 1, 1, 2, -1, True, None))
        return (word, robot, choice.choice((*range(len(robots[robot == 1][1])), 7, -1, False, "0")))
    return (word,)
