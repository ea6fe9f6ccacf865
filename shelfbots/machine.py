"""Where robots and boxes are after any tick (point 6 of the document)."""

from shelfbots.cycle import Run
from shelfbots.limits import check_last_tick, check_tick
from shelfbots.plans import read_plan


def cells(plan, tick):
    """Returns the tuple of the cells of both robots after a tick."""
    robot_cells, _, _, _ = situation_after(plan, tick)
    return robot_cells


def boxes(plan, tick):
    """Returns the list of the boxes of all cells after a tick."""
    _, _, _, numbers = situation_after(plan, tick)
    return list(numbers)


def holding(plan, tick):
    """Returns the ascending list of the robots that hold a box after a tick."""
    _, loaded, _, _ = situation_after(plan, tick)
    return [robot for robot, has_box in enumerate(loaded) if has_box]


def trace(plan, first, last):
    """Yields tuples (tick, word, word) of what both robots do from a first to a last tick."""
    checked = read_plan(plan)
    check_tick(first)
    check_last_tick(first, last)
    run = Run(checked)
    for tick in range(first, last + 1):
        word, other = run.words_in(tick)
        yield (tick, word, other)


def find_cycle(plan):
    """Returns the tuple of the beginning and the length of the cycle."""
    run = Run(read_plan(plan))
    return (run.begin, run.length)


def situation_after(plan, tick):
    """Returns the frozen situation after a tick, which is the one before the next tick."""
    checked = read_plan(plan)
    check_tick(tick)
    return Run(checked).situation_before(tick + 1)
