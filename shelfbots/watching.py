"""What a camera over one cell tells of the starts (point 10 of the document)."""

from shelfbots.cycle import Run
from shelfbots.errors import Contradiction
from shelfbots.limits import check_cell, check_tick
from shelfbots.plans import plans_with_all_starts, read_plan


class Camera:
    """Sees whether a robot is in a cell, by a plan of which the starts are not known."""

    def __init__(self, plan, cell):
        checked = read_plan(plan)
        check_cell(cell, checked.boxes)
        self.cell = cell
        self.runs = {}
        for other in plans_with_all_starts(checked):
            self.runs[other.first_cells] = Run(other)
        self.remaining = list(self.runs)
        self.accepted = []

    def see(self, tick, is_there):
        """Observes whether a robot is in the cell after a tick, and returns the number of possible starts."""
        return self.see_from(tick, is_there)

    def see_from(self, first, *answers):
        """Observes successive ticks, and returns the number of possible starts."""
        check_tick(first)
        remaining = self.remaining
        observations = []
        for tick, is_there in enumerate(answers, start=first):
            check_tick(tick)
            remaining = [start for start in remaining if self.is_seen(start, tick) == is_there]
            if not remaining:
                raise Contradiction("no start would remain possible")
            observations.append((tick, is_there))
        # Nothing is accepted before all observations are known to be possible.
        self.remaining = remaining
        self.accepted.extend(observations)
        return len(remaining)

    @property
    def starts(self):
        """The ascending list of all possible pairs (cell of robot 0, cell of robot 1)."""
        return list(self.remaining)

    @property
    def history(self):
        """The list of all accepted observations in order, as tuples (tick, boolean)."""
        return list(self.accepted)

    def possible(self, tick):
        """Returns the ascending list of all cells in which a robot can be after a tick."""
        check_tick(tick)
        return sorted({cell for start in self.remaining for cell in self.cells_after(start, tick)})

    def is_seen(self, start, tick):
        """Tells whether a robot is in the cell after a tick, by the plan with these starts."""
        return self.cell in self.cells_after(start, tick)

    def cells_after(self, start, tick):
        """Returns the tuple of the cells of both robots after a tick, by the plan with these starts."""
        robot_cells, _, _, _ = self.runs[start].situation_before(tick + 1)
        return robot_cells
