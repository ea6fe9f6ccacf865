"""What is on a stage between two operations (point 12 of the document)."""

from shelfbots.limits import ROBOTS
from shelfbots.situation import BLOCKED, Situation


class Moment:
    """A frozen situation, with the number of ticks before it and how often each robot was blocked in them.

    Operations lead to new moments and never change one, so a state may be kept as it is.
    """

    def __init__(self, frozen, ticks, failures):
        self.robot_cells, self.loaded, self.next_steps, self.boxes = frozen
        self.ticks = ticks
        self.failures = failures

    def with_boxes(self, boxes):
        """Returns the moment with other boxes on the shelf."""
        frozen = (self.robot_cells, self.loaded, self.next_steps, tuple(boxes))
        return Moment(frozen, self.ticks, self.failures)

    def with_next_steps(self, next_steps):
        """Returns the moment with other steps as the next ones."""
        frozen = (self.robot_cells, self.loaded, tuple(next_steps), self.boxes)
        return Moment(frozen, self.ticks, self.failures)

    def after_ticks(self, steps, count):
        """Returns the moment after some ticks, and the list of what both robots do in them."""
        situation = Situation(steps, (self.robot_cells, self.loaded, self.next_steps, self.boxes))
        done = []
        for _ in range(count):
            done.append(situation.pass_tick())
        failures = [self.failures[robot] + [words[robot] for words in done].count(BLOCKED) for robot in ROBOTS]
        return (Moment(situation.frozen(), self.ticks + count, tuple(failures)), done)
