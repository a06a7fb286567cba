"""Watches, which look at a run under contracts."""

from callplans.bound import bound_by, bound_of
from callplans.checks import refuse_unknown_services
from callplans.contracts import LAST_TIME
from callplans.errors import NotWaiting
from callplans.frames import framed
from callplans.outcomes import common
from callplans.reasons import reasons, settled
from callplans.values import is_integer


class Watch:
    """A watch of a run under contracts, for a set of wanted outcomes."""

    def __init__(self, run, contracts, wanted):
        refuse_unknown_services(run.plan, contracts)
        self._run = run
        self._contracts = dict(contracts)
        self._wanted = wanted

    def _waiting(self, number):
        """Returns the frame of a waiting call, and the set of its replies."""
        bound = bound_of(self._run, self._contracts)
        if not is_integer(number) or number not in [call for call, start in self._run.waiting()]:
            raise NotWaiting(number)
        return framed(bound, number), bound[number]

    def state(self):
        """Returns the answer of the plan as the run binds it, or None if it is open."""
        return settled(bound_of(self._run, self._contracts), self._wanted)

    def sure(self, number):
        """Returns the replies of a waiting call with which the answer would be True."""
        frame, replies = self._waiting(number)
        return common(replies, frame.harmless(self._wanted, most=LAST_TIME))

    def hopeful(self, number):
        """Returns the replies of a waiting call with which the answer would not be False."""
        frame, replies = self._waiting(number)
        return common(replies, frame.hopeful(self._wanted, most=LAST_TIME))

    def blame(self):
        """Returns the list of the smallest reasons for the answer: calls that have replied, or have not done so yet."""
        narrow = bound_of(self._run, self._contracts)
        return reasons(bound_by(self._run.plan, self._contracts), narrow, self._wanted)
