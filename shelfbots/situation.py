"""The situation on the shelf, and what a tick changes in it (point 5 of the document)."""

from shelfbots.lexer import JUMPS
from shelfbots.plans import MOST_BOXES

BLOCKED = "blocked"


def beginning(plan):
    """Returns the frozen situation in the beginning."""
    return (plan.first_cells, (False, False), (0, 0), tuple(plan.boxes))


class Situation:
    """Where the robots and the boxes are, and which steps are the next ones."""

    def __init__(self, steps, frozen):
        robot_cells, loaded, next_steps, boxes = frozen
        self.steps = steps
        self.robot_cells = list(robot_cells)
        self.loaded = list(loaded)
        self.next_steps = list(next_steps)
        self.boxes = list(boxes)

    def frozen(self):
        """Returns the cells of the robots, what they hold, the next steps and the boxes, as tuples."""
        return (tuple(self.robot_cells), tuple(self.loaded), tuple(self.next_steps), tuple(self.boxes))

    def pass_tick(self):
        """Lets one tick pass and returns the tuple of what both robots do."""
        word = self.do_step(0)
        return (word, self.do_step(1))

    def do_step(self, robot):
        """Lets a robot do its next step and returns the word of it, or BLOCKED."""
        steps = self.steps[robot]
        number = self.next_steps[robot]
        word, target = steps[number]
        if not self.try_step(robot, word):
            return BLOCKED
        if word in JUMPS and self.is_jumping(robot, word):
            self.next_steps[robot] = target
        else:
            self.next_steps[robot] = (number + 1) % len(steps)
        return word

    def try_step(self, robot, word):
        """Moves the robot or a box, and returns False if the robot is blocked."""
        if word == "left":
            return self.try_move(robot, -1)
        if word == "right":
            return self.try_move(robot, 1)
        if word == "pick":
            return self.try_pick(robot)
        if word == "put":
            return self.try_put(robot)
        return True

    def try_move(self, robot, way):
        """Moves a robot to a neighbouring cell, if it can go there."""
        cell = self.robot_cells[robot] + way
        if cell < 0 or cell >= len(self.boxes) or cell in self.robot_cells:
            return False
        self.robot_cells[robot] = cell
        return True

    def try_pick(self, robot):
        """Takes a box from the cell of a robot, if it can."""
        cell = self.robot_cells[robot]
        if self.loaded[robot] or self.boxes[cell] == 0:
            return False
        self.loaded[robot] = True
        self.boxes[cell] -= 1
        return True

    def try_put(self, robot):
        """Puts the box of a robot into its cell, if it can."""
        cell = self.robot_cells[robot]
        if not self.loaded[robot] or self.boxes[cell] == MOST_BOXES:
            return False
        self.loaded[robot] = False
        self.boxes[cell] += 1
        return True

    def is_jumping(self, robot, word):
        """Tells whether a robot whose step is a jump does jump."""
        if word == "empty":
            return self.boxes[self.robot_cells[robot]] == 0
        if word == "held":
            return self.loaded[robot]
        return True
