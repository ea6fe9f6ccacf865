"""Compares plans with each other and with logs (point 9 of the document)."""

from shelfbots.cycle import Run
from shelfbots.errors import DifferentShelves
from shelfbots.plans import read_plan, read_two_plans


def first_difference(plan, other):
    """Returns the first tick after which robots or boxes are elsewhere by two plans, or None."""
    checked, other_checked = read_two_plans(plan, other)
    if len(checked.boxes) != len(other_checked.boxes):
        raise DifferentShelves("the shelves have different numbers of cells")
    run = Run(checked)
    other_run = Run(other_checked)
    # Two sequences that repeat after n and after m items are equal for ever if n + m items of them are.
    ticks = max(run.begin, other_run.begin) + run.length + other_run.length
    for tick in range(ticks):
        if places_after(run, tick) != places_after(other_run, tick):
            return tick
    return None


def first_error(plan, log):
    """Returns the index of the first item of a log that is not what both robots do, or None."""
    run = Run(read_plan(plan))
    if not isinstance(log, list):
        return 0
    for index, item in enumerate(log):
        if item != run.words_in(index):
            return index
    return None


def places_after(run, tick):
    """Returns the tuple of the cells of the robots and the boxes of the cells after a tick."""
    robot_cells, _, _, boxes = run.situation_before(tick + 1)
    return (robot_cells, boxes)
