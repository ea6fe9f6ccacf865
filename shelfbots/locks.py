"""When robots are blocked, for ever or not, and what they do how often (point 7 of the document)."""

from shelfbots.cycle import Run
from shelfbots.limits import ROBOTS, check_robot, check_tick
from shelfbots.plans import read_plan
from shelfbots.situation import BLOCKED


def lock_tick(plan):
    """Returns the first tick from which on both robots are blocked for ever, or None."""
    run = Run(read_plan(plan))
    ticks = [first_stuck_tick(run, robot) for robot in ROBOTS]
    return None if None in ticks else max(ticks)


def stuck_robots(plan):
    """Returns the ascending list of the robots that are stuck."""
    run = Run(read_plan(plan))
    return [robot for robot in ROBOTS if run.is_stuck(robot)]


def stuck_from(plan, number):
    """Returns the first tick from which on a robot is blocked for ever, or None."""
    checked = read_plan(plan)
    check_robot(number)
    return first_stuck_tick(Run(checked), number)


def count_blocked(plan, number, ticks):
    """Returns in how many of the first ticks a robot is blocked."""
    return count_done(plan, number, BLOCKED, ticks)


def count_done(plan, number, word, ticks):
    """Returns in how many of the first ticks a robot does what a word tells."""
    checked = read_plan(plan)
    check_robot(number)
    check_tick(ticks)
    return count_word(Run(checked), number, word, ticks)


def unused_steps(plan, number):
    """Returns the ascending list of the numbers of all steps that a robot never does."""
    checked = read_plan(plan)
    check_robot(number)
    used = used_steps(Run(checked), number)
    return [step for step in range(len(checked.steps[number])) if step not in used]


def first_stuck_tick(run, robot):
    """Returns the first tick from which on a robot is blocked for ever, or None."""
    if not run.is_stuck(robot):
        return None
    # The other robot may still do something new while this one is blocked for ever already.
    tick = run.begin
    while tick > 0 and run.words[tick - 1][robot] == BLOCKED:
        tick -= 1
    return tick


def count_word(run, robot, word, ticks):
    """Returns how often a robot does what a word tells in the first ticks."""
    words = [pair[robot] for pair in run.words]
    if ticks <= len(words):
        return words[:ticks].count(word)
    cycle = words[run.begin:]
    rounds, rest = divmod(ticks - run.begin, run.length)
    return words[:run.begin].count(word) + rounds * cycle.count(word) + cycle[:rest].count(word)


def used_steps(run, robot):
    """Returns a dict of the numbers of all steps that a robot does to True."""
    used = {}
    for (_, _, next_steps, _), words in zip(run.situations, run.words):
        if words[robot] != BLOCKED:
            used[next_steps[robot]] = True
    return used
