"""Bound plans: plans with a set of replies for each of their calls."""

from callplans.agreeing import agreeing_under
from callplans.checks import check_plan, refuse_holes, refuse_large
from callplans.forms import written_out
from callplans.outcomes import alone, replies_under, sets_of
from callplans.replies import many_replies, refuse_bad_replies, refuse_other_world, refuse_unknown_call


class Bound:
    """A plan with a set of replies for each of its calls. It never changes."""

    def __init__(self, plan, replies):
        refuse_holes(plan)
        refuse_large(plan)
        refuse_bad_replies(replies, len(plan.calls()))
        self.plan = plan
        self._replies = tuple(replies)

    def __len__(self):
        return len(self._replies)

    def __getitem__(self, number):
        refuse_unknown_call(number, len(self._replies))
        return self._replies[number]

    def __iter__(self):
        raise TypeError("the sets of a bound plan are told by its method replies")

    def __eq__(self, other):
        return isinstance(other, Bound) and self.plan == other.plan and self._replies == other._replies

    def replies(self):
        """Returns the list of the sets of replies of the calls."""
        return list(self._replies)

    def outcomes(self):
        """Returns the outcomes of the plan in its worlds."""
        return sets_of(written_out(self.plan.forms), self._replies)[0]

    def worlds(self):
        """Returns the number of the worlds."""
        found = 1
        for some in self._replies:
            found = found * many_replies(some)
        return found

    def with_replies(self, number, outcomes):
        """Returns the bound plan with another set of replies for a call."""
        refuse_unknown_call(number, len(self._replies))
        replies = list(self._replies)
        replies[number] = outcomes
        return Bound(self.plan, replies)

    def is_world(self, value):
        """Tells whether a value is a world of the bound plan."""
        if not isinstance(value, list) or len(value) != len(self._replies):
            return False
        return all([reply in some for reply, some in zip(value, self._replies)])

    def at(self, world):
        """Returns the bound plan in which each call has only its reply of a world."""
        refuse_other_world(world, self._replies)
        return Bound(self.plan, [alone(reply) for reply in world])


def bound_by(plan, contracts):
    """Returns a plan as contracts bind it."""
    check_plan(plan, contracts)
    return Bound(plan, replies_under(written_out(plan.forms), contracts))


def bound_of(run, contracts):
    """Returns the plan of a run, as the run binds it under contracts."""
    return Bound(run.plan, agreeing_under(run, contracts))


def bound_in(registry, number):
    """Returns the plan of the run of a registry with a number, as the run binds it."""
    plan, replies = registry.bindings(number)
    return Bound(plan, replies)
