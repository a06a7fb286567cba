"""Counts: how many worlds of a bound plan end when, and how."""

from callplans.forms import written_out
from callplans.spreads import ended_by
from callplans.tallies import tally_of


def many_in(spread, times):
    """Returns how many worlds of a spread end at one of the times."""
    return sum([ended_by(spread, high) - ended_by(spread, low - 1) for low, high in times.ranges])


class Counts:
    """The numbers of the worlds of a bound plan."""

    def __init__(self, bound):
        self._tally = tally_of(written_out(bound.plan.forms), bound.replies())

    def all_worlds(self):
        """Returns how many worlds there are."""
        return self._tally.many()

    def endless(self):
        """Returns how many worlds never end."""
        return self._tally.never

    def ok_by(self, time):
        """Returns how many worlds end ok at a time of at most this one."""
        return ended_by(self._tally.ok, time)

    def fail_by(self, time):
        """Returns how many worlds fail at a time of at most this one."""
        return ended_by(self._tally.fail, time)

    def within(self, outcomes):
        """Returns how many worlds have an outcome that is in a set."""
        never = self._tally.never if outcomes.never else 0
        return many_in(self._tally.ok, outcomes.ok) + many_in(self._tally.fail, outcomes.fail) + never
