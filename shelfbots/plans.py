"""Plans that follow all rules of points 2 and 3 of the document."""

from shelfbots.errors import CheckFault
from shelfbots.parser import parse_plan

FEWEST_CELLS = 3
MOST_CELLS = 12
MOST_BOXES = 3
MOST_STEPS = 20
# The order decides between two errors at one place.
REASONS = ("cells", "boxes", "start", "same", "steps", "duplicate", "unknown")


class Plan:
    """A plan: the boxes of the cells, and for both robots where they start and their steps.

    A step is a tuple of its word and the number of the step to which it jumps, or None.
    """

    def __init__(self, boxes, first_cells, steps):
        self.boxes = boxes
        self.first_cells = first_cells
        self.steps = steps


def read_plan(text):
    """Returns the plan of a text, or raises SyntaxFault or CheckFault."""
    tokens = parse_plan(text)
    check_plan(tokens)
    return linked_plan(tokens)


def read_two_plans(text, other):
    """Returns the list of the plans of two texts, or raises SyntaxFault or CheckFault."""
    # A SyntaxFault of either text comes before a CheckFault of either text.
    both = [parse_plan(text), parse_plan(other)]
    for tokens in both:
        check_plan(tokens)
    return [linked_plan(tokens) for tokens in both]


def linked_plan(tokens):
    """Returns the plan of tokens in which no error is left."""
    boxes = [int(number.text) for number in tokens.numbers]
    first_cells = tuple([int(robot.start.text) for robot in tokens.robots])
    steps = tuple([linked_steps(robot.steps) for robot in tokens.robots])
    return Plan(boxes, first_cells, steps)


def plans_with_all_starts(plan):
    """Returns the list of the plans with each pair of different cells as starts, by ascending starts."""
    numbers = list(range(len(plan.boxes)))
    starts = [(first, second) for first in numbers for second in numbers if first != second]
    return [Plan(plan.boxes, start, plan.steps) for start in starts]


def linked_steps(steps):
    """Returns the steps of a robot, with the numbers of steps instead of names."""
    labels = first_labels(steps)
    linked = []
    for step in steps:
        target = None if step.target is None else labels[step.target.text]
        linked.append((step.command.text, target))
    return linked


def first_labels(steps):
    """Returns a dict of the labels of a robot to the first step that has each of them."""
    labels = {}
    for number, step in enumerate(steps):
        if step.label is not None:
            labels.setdefault(step.label.text, number)
    return labels


def check_plan(tokens):
    """Raises CheckFault for the first error in the text, if there is one."""
    faults = shelf_faults(tokens) + start_faults(tokens)
    for robot in tokens.robots:
        faults.extend(step_faults(robot.steps))
    if faults:
        line, column, rank = min(faults)
        raise CheckFault(REASONS[rank], line, column)


def fault_at(reason, token):
    """Returns an error as a tuple; the smallest tuple is the error to be raised."""
    return (token.line, token.column, REASONS.index(reason))


def shelf_faults(tokens):
    """Returns the list of the errors in the cells."""
    faults = []
    if len(tokens.numbers) < FEWEST_CELLS:
        faults.append(fault_at("cells", tokens.keyword))
    if len(tokens.numbers) > MOST_CELLS:
        faults.append(fault_at("cells", tokens.numbers[MOST_CELLS]))
    for number in tokens.numbers:
        if int(number.text) > MOST_BOXES:
            faults.append(fault_at("boxes", number))
    return faults


def start_faults(tokens):
    """Returns the list of the errors in the cells where the robots start."""
    faults = []
    first, second = [robot.start for robot in tokens.robots]
    for start in (first, second):
        if int(start.text) >= len(tokens.numbers):
            faults.append(fault_at("start", start))
    if first.text == second.text:
        faults.append(fault_at("same", second))
    return faults


def step_faults(steps):
    """Returns the list of the errors in the steps of a robot."""
    faults = []
    labels = first_labels(steps)
    for number, step in enumerate(steps):
        if number >= MOST_STEPS:
            faults.append(fault_at("steps", step.first()))
        if step.label is not None and labels[step.label.text] < number:
            faults.append(fault_at("duplicate", step.label))
        if step.target is not None and step.target.text not in labels:
            faults.append(fault_at("unknown", step.target))
    return faults
