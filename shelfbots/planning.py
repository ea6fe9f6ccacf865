"""Changes of a plan with which no robot is stuck (point 8 of the document)."""

from shelfbots.cycle import Run
from shelfbots.formatter import plan_text
from shelfbots.limits import ROBOTS, check_limit
from shelfbots.plans import MOST_STEPS, Plan, plans_with_all_starts, read_plan

# A step that does nothing and does not jump.
WAIT = ("wait", None)


def plan_waits(plan, limit):
    """Returns the tuple of the places of the fewest waits and the text of the new plan, or None."""
    checked = read_plan(plan)
    check_limit(limit)
    places = wait_places(checked)
    for many in range(limit + 1):
        for chosen in place_lists(places, many):
            longer = plan_with_waits(checked, chosen)
            if has_few_steps(longer) and is_free(longer):
                return (chosen, plan_text(longer))
    return None


def free_starts(plan):
    """Returns the ascending list of all starts with which no robot is stuck."""
    plans = plans_with_all_starts(read_plan(plan))
    return [other.first_cells for other in plans if is_free(other)]


def is_free(plan):
    """Tells whether no robot is stuck by a plan that was read."""
    run = Run(plan)
    return not any([run.is_stuck(robot) for robot in ROBOTS])


def has_few_steps(plan):
    """Tells whether no robot has more steps than a plan can have."""
    return all([len(steps) <= MOST_STEPS for steps in plan.steps])


def wait_places(plan):
    """Returns the ascending list of all places where a wait can be inserted."""
    return [(robot, number) for robot in ROBOTS for number in range(len(plan.steps[robot]) + 1)]


def place_lists(places, many):
    """Returns all ascending lists of so many places, which may be equal, in list order."""
    if many == 0:
        return [[]]
    lists = []
    for at, place in enumerate(places):
        for rest in place_lists(places[at:], many - 1):
            lists.append([place, *rest])
    return lists


def plan_with_waits(plan, places):
    """Returns a new plan, with waits inserted at the places."""
    steps = []
    for robot in ROBOTS:
        numbers = [number for owner, number in places if owner == robot]
        steps.append(steps_with_waits(plan.steps[robot], numbers))
    return Plan(plan.boxes, plan.first_cells, tuple(steps))


def steps_with_waits(steps, numbers):
    """Returns the steps of a robot with a wait inserted for each of the numbers."""
    longer = []
    for number, (word, target) in enumerate(steps):
        longer.extend([WAIT] * numbers.count(number))
        longer.append((word, moved_target(target, numbers)))
    longer.extend([WAIT] * numbers.count(len(steps)))
    return longer


def moved_target(target, numbers):
    """Returns where the step to which a jump leads stands behind the inserted waits."""
    if target is None:
        return None
    # A wait at the number of this very step stands before it, and the jump leads past the wait.
    return target + len([number for number in numbers if number <= target])
