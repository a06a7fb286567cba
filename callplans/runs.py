"""Runs of plans, which are told the replies time by time."""

from callplans.agreeing import agreeing_under
from callplans.checks import refuse_holes, refuse_large
from callplans.errors import BadReply, BadTime
from callplans.evaluation import NEVER, outcome_of
from callplans.forms import written_out
from callplans.outcomes import sets_of
from callplans.progress import items_of, starts_of
from callplans.values import is_integer


class Run:
    """A run of a plan, which has begun."""

    def __init__(self, plan):
        refuse_holes(plan)
        refuse_large(plan)
        self.plan = plan
        self.time = 0
        self._forms = written_out(plan.forms)
        self._replies = [NEVER] * len(plan.calls())

    def close(self, time, replies):
        """Closes a time, with the replies that come at it: a list of tuples (number of a call, word)."""
        if not is_integer(time) or time <= self.time:
            raise BadTime(time)
        starts = starts_of(items_of(self._forms, self._replies, time - 1))
        given = {}
        for number, word in replies:
            if not is_integer(number) or number not in starts or number in given:
                raise BadReply(number)
            given[number] = (word, time - starts[number])
        for number, reply in given.items():
            self._replies[number] = reply
        self.time = time

    def outcome(self):
        """Returns the outcome with which the run has ended, or None."""
        outcome = outcome_of(self._forms, self._replies)
        return None if outcome == NEVER or outcome[1] > self.time else outcome

    def record(self):
        """Returns for each call None, (start,) if it waits, or (start, word, end) if it has ended."""
        return items_of(self._forms, self._replies, self.time)

    def waiting(self):
        """Returns the list of the tuples (number, start) of the calls that wait."""
        return list(starts_of(self.record()).items())

    def possible(self, contracts):
        """Returns the outcomes that are still possible under contracts."""
        return sets_of(self._forms, agreeing_under(self, contracts))[0]
