"""What several tests need: plans, and checks of the errors that a call raises."""

from shelfbots.errors import BotError
from tests.slow import Refusal

# The plan of the examples in the document.
EXAMPLE = "shelf 1 0 0; robot 0 { pick; right; put; left; } robot 2 { wait; }"

# Values of the kinds that a caller may pass where an error is listed, without integers and strings.
NOT_INTEGERS_NOT_STRINGS = (True, False, None, (), [], (0,), [0], (0, 1), ["a", [None, (True,)]])
LAST_TICK = 10 ** 18
NOT_TICKS = (*NOT_INTEGERS_NOT_STRINGS, -1, -2, -LAST_TICK, LAST_TICK + 1, 2 * LAST_TICK, 10 ** 30, "", "0", "a")
NOT_ROBOTS = (*NOT_INTEGERS_NOT_STRINGS, -1, -2, 2, 3, LAST_TICK, -LAST_TICK, "", "0", "1", "robot")

# These plans were found by a search; another program told how soon they repeat.
# The first situation that comes again is the one before tick 32, and it does so at tick 20,000.
JUST_IN_TIME = """
shelf 0 1 1 2 0 0 0 0 0 0 0 2;
robot 11 {
  pick; sb: wait; held sg; sd: goto sf; se: put; sf: held se; sg: empty sk; sh: wait; left; empty sh;
  sk: right; wait; held sd; empty sb;
}
robot 3 {
  sa: right; empty sd; held se; sd: left; se: wait; wait; wait; held sn; wait; wait; pick; empty sa; goto sd;
  sn: put;
}
"""
# Like the first one, but with tick 33 instead of 32, and 20,001 instead of 20,000.
JUST_TOO_LONG = """
shelf 0 1 1 2 0 0 0 0 0 1 0 1;
robot 9 {
  pick; sb: wait; held sg; sd: goto sf; se: put; sf: held se; sg: empty sk; sh: left; wait; empty sh;
  sk: right; wait; held sd; empty sb;
}
robot 3 {
  sa: right; wait; held se; sd: left; se: right; left; wait; held sn; wait; wait; pick; empty sa; held sd;
  sn: put;
}
"""
# The situation before tick 19,999 is the first one that comes again, and it never changes.
LATE_STANDSTILL = """
shelf 2 0 0 0 0 1 1 2 0 0 0 2;
robot 8 {
  sa: right; right; empty sg; sd: wait; left; empty sd; sg: left; held sl; empty sa; pick; held sa; sl: put;
}
robot 7 { pick; right; wait; put; pick; put; wait; left; si: left; goto si; put; put; }
"""
# The same with tick 20,000, which is one tick too late.
TOO_LATE_STANDSTILL = """
shelf 0 0 0 1 0 3 0 1 0 0 1 1;
robot 5 {
  sa: empty se; sb: right; right; empty sg; se: left; empty sa; sg: left; held sl; empty sk; pick; sk: goto sb;
  sl: put;
}
robot 6 { sa: wait; right; held sa; right; left; pick; left; right; right; left; left; left; }
"""
# No situation comes again within the first 60,000 ticks.
FAR_TOO_LONG = """
shelf 0 2 2 1 1 0 0 0 0 0 0 2;
robot 3 {
  right; sb: wait; held sd; sd: empty sm; se: held sk; pick; sg: wait; empty se; left; goto sb; sk: put;
  goto sg; sm: right; right;
}
robot 4 {
  held si; sb: goto sf; sc: goto sm; sd: wait; goto sj; sf: empty sc; sg: wait; held sg; si: goto sd;
  sj: held si; right; empty sg; sm: left; held sb;
}
"""
# No robot is stuck by this plan, but it does not repeat early if the robots start in the cells 1 and 4.
OTHER_STARTS_TOO_LONG = """
shelf 0 2 2 1 1 0 0 0 0 0 0 2;
robot 1 {
  right; sb: wait; held sd; sd: empty sm; se: held sk; pick; sg: wait; empty se; left; goto sb; sk: put;
  goto sg; sm: right; right;
}
robot 3 {
  held si; sb: goto sf; sc: goto sm; sd: wait; goto sj; sf: empty sc; sg: wait; held sg; si: goto sd;
  sj: held si; right; empty sg; sm: left; held sb;
}
"""
# Both robots are stuck from tick 17,911 on. With a wait at (0, 0) they are, too; with one at (0, 1), the plan does
# not repeat early; no single wait helps.
WAIT_TOO_LONG = """
shelf 0 0 0 0 0 1 1 2 0 0 0 1;
robot 6 {
  sa: right; right; empty sf; sd: left; empty sd; sf: left; held sk; empty sa; pick; held sa; sk: put;
}
robot 0 { pick; left; wait; put; pick; put; wait; left; si: left; goto si; put; put; }
"""
# Both robots are stuck. A wait at (0, 0) helps; with one at (0, 8), which is tried later, the plan is too long.
WAIT_BEFORE_TOO_LONG = """
shelf 0 1 1 3 0 0 0 0 0 1 0 1;
robot 9 {
  pick; sb: wait; held sg; sd: goto sf; se: put; sf: held se; sg: empty sj; sh: left; empty sh; sj: right;
  wait; held sd; empty sb;
}
robot 6 {
  sa: right; wait; held se; sd: left; se: right; left; wait; held sn; empty sd; wait; pick; empty sa; held sd;
  sn: put;
}
"""
# No robot is stuck by this plan; with a wait at (0, 0), it does not repeat early.
NO_WAIT_BEFORE_TOO_LONG = FAR_TOO_LONG.replace("sd: wait; goto sj;", "sd: goto sj;")


def plan_of(shelf, first, second):
    """Returns a plan; each robot is given as its cell and the text of its steps."""
    return f"shelf {shelf}; robot {first[0]} {{ {first[1]} }} robot {second[0]} {{ {second[1]} }}"


def error_of(call, *arguments):
    """Returns the error of the package that a call raises, or None."""
    try:
        call(*arguments)
    except BotError as error:
        return error
    return None


def told(error):
    """Returns the name of the class of an error and its attributes, as one tuple."""
    names = ("reason", "line", "column", "place")
    return (error.__class__.__name__, *[getattr(error, name) for name in names if hasattr(error, name)])


def fault_of(call, *arguments):
    """Returns what is told of the error that a call raises, or None."""
    error = error_of(call, *arguments)
    return None if error is None else told(error)


def outcome_of(call, *arguments):
    """Returns the kind of what a call returns and that itself, or None and what is told of the error."""
    try:
        result = call(*arguments)
    except BotError as error:
        return (None, told(error))
    except Refusal as refusal:
        return (None, refusal.args)
    return (type(result), result)


def stage_told(stage):
    """Returns all that can be found out about a stage: what it tells now, behind each undo and behind each redo."""
    stage.save("told")
    rows = [stage_row(stage)]
    while stage.undo():
        rows.append(stage_row(stage))
    stage.restore("told")
    while stage.redo():
        rows.append(stage_row(stage))
    stage.restore("told")
    return rows


def stage_row(stage):
    """Returns all that a stage tells now, with the next steps, and leaves it as it was."""
    stage.save("row")
    next_steps = (stage.jump(0, 0), stage.jump(1, 0))
    stage.restore("row")
    return (stage.passed, stage.places, stage.shelf_boxes, stage.held, stage.blocked, next_steps, stage.operations)
