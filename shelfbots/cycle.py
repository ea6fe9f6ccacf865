"""The ticks of a plan up to the end of its first cycle (points 6 and 7 of the document)."""

from shelfbots.errors import TooLong
from shelfbots.limits import LAST_TICK_TO_REPEAT
from shelfbots.situation import BLOCKED, Situation, beginning


class Run:
    """What happens by a plan; all later ticks repeat those that are kept here."""

    def __init__(self, plan):
        before = beginning(plan)
        situation = Situation(plan.steps, before)
        ticks = {}
        words = []
        while before not in ticks:
            if len(ticks) == LAST_TICK_TO_REPEAT:
                raise TooLong(f"no situation comes again up to tick {LAST_TICK_TO_REPEAT}")
            ticks[before] = len(ticks)
            words.append(situation.pass_tick())
            before = situation.frozen()
        self.situations = list(ticks)
        self.words = words
        self.begin = ticks[before]
        self.length = len(ticks) - self.begin

    def kept_tick(self, tick):
        """Returns the first tick that has the same situation as a tick."""
        if tick < self.begin:
            return tick
        return self.begin + (tick - self.begin) % self.length

    def situation_before(self, tick):
        """Returns the frozen situation before a tick."""
        return self.situations[self.kept_tick(tick)]

    def words_in(self, tick):
        """Returns the tuple of what both robots do in a tick."""
        return self.words[self.kept_tick(tick)]

    def is_stuck(self, robot):
        """Tells whether a robot is blocked in all ticks of the cycle."""
        return all([words[robot] == BLOCKED for words in self.words[self.begin:]])
