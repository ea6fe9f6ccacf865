"""A stage on which a plan is run tick by tick (points 12 and 13 of the document)."""

from shelfbots.errors import BotError, CellEmpty, CellFull, InvalidName, InvalidOperation, UnknownName
from shelfbots.lexer import LETTERS, LONGEST_NAME
from shelfbots.limits import check_cell, check_many_ticks, check_number, check_robot
from shelfbots.moment import Moment
from shelfbots.plans import MOST_BOXES, read_plan
from shelfbots.situation import beginning

# The words of the operations, and the numbers of their arguments.
OPERATIONS = {"step": 1, "add": 1, "take": 1, "jump": 2, "undo": 0, "redo": 0}


class Stage:
    """Runs a plan tick by tick, by operations that can be undone."""

    def __init__(self, plan):
        checked = read_plan(plan)
        self.steps = checked.steps
        self.now = Moment(beginning(checked), 0, (0, 0))
        # Each operation is a tuple of its word and the moment to which undo or redo leads.
        self.in_effect = []
        self.undone = []
        self.snapshots = {}

    def step(self, count):
        """Lets ticks pass, and returns the list of what both robots do in each of them."""
        check_many_ticks(count)
        moment, done = self.now.after_ticks(self.steps, count)
        self.go_on("step", moment)
        return done

    def add(self, cell):
        """Adds a box to a cell, and returns how many are in it then."""
        check_cell(cell, self.now.boxes)
        if self.now.boxes[cell] == MOST_BOXES:
            raise CellFull("there is no room for a box in the cell")
        return self.change_boxes("add", cell, 1)

    def take(self, cell):
        """Takes a box from a cell, and returns how many are in it then."""
        check_cell(cell, self.now.boxes)
        if self.now.boxes[cell] == 0:
            raise CellEmpty("there is no box in the cell")
        return self.change_boxes("take", cell, -1)

    def jump(self, number, step):
        """Makes a step the next one of a robot, and returns the number of the former one."""
        check_robot(number)
        check_number(step, len(self.steps[number]) - 1)
        next_steps = list(self.now.next_steps)
        former = next_steps[number]
        next_steps[number] = step
        self.go_on("jump", self.now.with_next_steps(next_steps))
        return former

    def undo(self):
        """Undoes the last operation in effect, and returns whether there was one."""
        if not self.in_effect:
            return False
        word, before = self.in_effect.pop()
        self.undone.append((word, self.now))
        self.now = before
        return True

    def redo(self):
        """Repeats the operation that was undone last, and returns whether there was one."""
        if not self.undone:
            return False
        word, behind = self.undone.pop()
        self.in_effect.append((word, self.now))
        self.now = behind
        return True

    @property
    def passed(self):
        """The number of ticks that have passed."""
        return self.now.ticks

    @property
    def places(self):
        """The tuple of the cells of both robots."""
        return self.now.robot_cells

    @property
    def shelf_boxes(self):
        """The list of the boxes of all cells."""
        return list(self.now.boxes)

    @property
    def held(self):
        """The tuple of whether each robot holds a box."""
        return self.now.loaded

    @property
    def blocked(self):
        """The tuple of how often each robot was blocked."""
        return self.now.failures

    @property
    def operations(self):
        """The list of the words of all operations in effect, in order."""
        return [word for word, _ in self.in_effect]

    def save(self, name):
        """Saves the complete state under a name."""
        if not is_snapshot_name(name):
            raise InvalidName("a name has one to eight letters a to z")
        self.snapshots[name] = self.state()

    def restore(self, name):
        """Restores the state that was saved under a name."""
        if not isinstance(name, str) or name not in self.snapshots:
            raise UnknownName("no snapshot has this name")
        self.set_state(self.snapshots[name])

    def batch(self, operations):
        """Executes operations, all or none, and returns the list of their results."""
        check_operations(operations)
        before = self.state()
        try:
            return [self.execute(operation) for operation in operations]
        except BotError:
            self.set_state(before)
            raise

    @classmethod
    def replay(cls, plan, operations):
        """Returns a new stage after executing operations on it."""
        stage = cls(plan)
        if not isinstance(operations, list):
            raise InvalidOperation(0)
        for place, operation in enumerate(operations):
            # A malformed entry is reported only if no earlier one fails.
            check_operation(operation, place)
            try:
                stage.execute(operation)
            except BotError:
                raise InvalidOperation(place) from None
        return stage

    def execute(self, operation):
        """Executes an operation that is well formed, and returns its result."""
        word, *arguments = operation
        if word == "step":
            return self.step(*arguments)
        if word == "add":
            return self.add(*arguments)
        if word == "take":
            return self.take(*arguments)
        if word == "jump":
            return self.jump(*arguments)
        if word == "undo":
            return self.undo()
        return self.redo()

    def change_boxes(self, word, cell, change):
        """Changes the number of boxes in a cell, and returns the new one."""
        boxes = list(self.now.boxes)
        boxes[cell] += change
        self.go_on(word, self.now.with_boxes(boxes))
        return boxes[cell]

    def go_on(self, word, moment):
        """Makes the moment to which an operation leads the present one."""
        self.in_effect.append((word, self.now))
        self.undone = []
        self.now = moment

    def state(self):
        """Returns the complete state as a tuple that no operation changes."""
        return (self.now, tuple(self.in_effect), tuple(self.undone))

    def set_state(self, state):
        """Makes an earlier state the present one."""
        now, in_effect, undone = state
        self.now = now
        self.in_effect = list(in_effect)
        self.undone = list(undone)


def is_snapshot_name(name):
    """Tells whether a value can be the name of a snapshot."""
    if not isinstance(name, str) or len(name) < 1 or len(name) > LONGEST_NAME:
        return False
    return all([letter in LETTERS for letter in name])


def check_operations(operations):
    """Raises InvalidOperation if a value is not a list of operations that are well formed."""
    if not isinstance(operations, list):
        raise InvalidOperation(0)
    for place, operation in enumerate(operations):
        check_operation(operation, place)


def check_operation(operation, place):
    """Raises InvalidOperation if an entry at a place is not an operation that is well formed."""
    if not is_operation(operation):
        raise InvalidOperation(place)


def is_operation(entry):
    """Tells whether a value is a tuple of the word of an operation and the right number of arguments."""
    if not isinstance(entry, tuple) or not entry:
        return False
    word = entry[0]
    return isinstance(word, str) and word in OPERATIONS and len(entry) - 1 == OPERATIONS[word]
