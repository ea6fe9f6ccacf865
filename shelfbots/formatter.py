"""The canonical text of plans (point 4 of the document)."""

from shelfbots.plans import read_plan

# The second letters of the labels of the steps 0, 1, 2 and so on.
STEP_LETTERS = "abcdefghijklmnopqrst"


def format_plan(plan):
    """Returns the canonical text of a plan."""
    return plan_text(read_plan(plan))


def count_steps(plan):
    """Returns the tuple of the numbers of steps of both robots."""
    first, second = read_plan(plan).steps
    return (len(first), len(second))


def plan_text(plan):
    """Returns the canonical text of a plan that was read."""
    shelf = " ".join([str(number) for number in plan.boxes])
    lines = [f"shelf {shelf};"]
    for start, steps in zip(plan.first_cells, plan.steps):
        lines.append("robot " + str(start) + " {")
        lines.extend(step_lines(steps))
        lines.append("}")
    return "\n".join(lines)


def step_lines(steps):
    """Returns the list of the lines for the steps of a robot."""
    targets = [target for _, target in steps]
    lines = []
    for number, (word, target) in enumerate(steps):
        label = f"{label_of(number)}: " if number in targets else ""
        jump = "" if target is None else f" {label_of(target)}"
        lines.append(f"  {label}{word}{jump};")
    return lines


def label_of(number):
    """Returns the canonical label of a step."""
    return f"s{STEP_LETTERS[number]}"
