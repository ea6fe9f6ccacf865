"""The limits of ticks and numbers (points 5 to 8, 10 and 12 of the document), and their checks."""

from shelfbots.errors import InvalidNumber, InvalidTick

LAST_TICK = 10 ** 18
LONGEST_TRACE = 500
LAST_TICK_TO_REPEAT = 20000
ROBOTS = (0, 1)
MOST_WAITS = 3
MOST_TICKS_OF_A_STEP = 500


def is_number(value):
    """Tells whether a value is an integer in the sense of the document."""
    # Python counts True and False among the integers, the document does not.
    return isinstance(value, int) and not isinstance(value, bool)


def check_tick(tick):
    """Raises InvalidTick if a value is not a tick from 0 to 10 ** 18."""
    if not is_number(tick) or tick < 0 or tick > LAST_TICK:
        raise InvalidTick(f"a tick is an integer from 0 to {LAST_TICK}")


def check_last_tick(first, last):
    """Raises InvalidTick if no trace from a valid first tick has this last one."""
    latest = min(first + LONGEST_TRACE - 1, LAST_TICK)
    if not is_number(last) or last < first - 1 or last > latest:
        raise InvalidTick(f"the last tick is an integer from {first - 1} to {latest}")


def check_number(number, last):
    """Raises InvalidNumber if a value is not an integer from 0 to a last one."""
    if not is_number(number) or number < 0 or number > last:
        raise InvalidNumber(f"the number is an integer from 0 to {last}")


def check_robot(number):
    """Raises InvalidNumber if a value is not the number of a robot."""
    check_number(number, len(ROBOTS) - 1)


def check_limit(limit):
    """Raises InvalidNumber if a value is not a limit of waits."""
    check_number(limit, MOST_WAITS)


def check_many_ticks(count):
    """Raises InvalidNumber if a stage does not let so many ticks pass at once."""
    check_number(count, MOST_TICKS_OF_A_STEP)


def check_cell(cell, boxes):
    """Raises InvalidNumber if a value is not a cell of a shelf with these boxes."""
    check_number(cell, len(boxes) - 1)
