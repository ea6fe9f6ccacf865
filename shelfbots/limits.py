"""The limits of ticks and numbers (points 5 to 8 of the document), and their checks."""

from shelfbots.errors import InvalidNumber, InvalidTick

LAST_TICK = 10 ** 18
LONGEST_TRACE = 500
LAST_TICK_TO_REPEAT = 20000
ROBOTS = (0, 1)
MOST_WAITS = 3


def is_number(value):
    """Tells whether a value is an integer in the sense of the document."""
    # Python counts True and False among the integers, the document does not.
    return isinstance(value, int) and not isinstance(value, bool)


def check_tick(tick):
    """Raises InvalidTick if a value is not a tick from 0 to 10 ** 18."""
    if not is_number(tick) or tick < 0 or tick > LAST_TICK:
        raise InvalidTick(f"a tick is an integer from 0 to {LAST_TICK}")


def check_last_tick(first, last):
    """Raises InvalidTick if no trace from a valid first tick has this last one."""
    latest = min(first + LONGEST_TRACE - 1, LAST_TICK)
    if not is_number(last) or last < first - 1 or last > latest:
        raise InvalidTick(f"the last tick is an integer from {first - 1} to {latest}")


def check_robot(number):
    """Raises InvalidNumber if a value is not the number of a robot."""
    if not is_number(number) or number not in ROBOTS:
        raise InvalidNumber("a robot has the number 0 or 1")


def check_limit(limit):
    """Raises InvalidNumber if a value is not a limit of waits."""
    if not is_number(limit) or limit < 0 or limit > MOST_WAITS:
        raise InvalidNumber(f"a limit of waits is an integer from 0 to {MOST_WAITS}")
