"""A registry: contracts, plans, promises and runs that are kept together."""

from callplans.agreeing import agreeing_replies, refuse_broken
from callplans.checks import check_plan
from callplans.endings import late_world
from callplans.errors import PromiseBroken, RunLate, UnknownName, UnknownRun
from callplans.forms import written_out
from callplans.outcomes import is_empty, outcomes, replies_under, sets_of
from callplans.runs import Run
from callplans.values import is_integer


def changed(kept, changes):
    """Returns a new dict with changes to a dict that is kept; None stands for no changes."""
    found = dict(kept)
    if changes is not None:
        found.update(changes)
    return found


def refuse_unknown_names(names, plans):
    """Raises UnknownName for the first name that has no plan."""
    for name in sorted(names):
        if name not in plans:
            raise UnknownName(name)


def refuse_broken_promises(plans, promises, contracts):
    """Raises PromiseBroken for the first promised plan that may end after its deadline."""
    for name in sorted(promises):
        if promises[name] is not None:
            forms = written_out(plans[name].forms)
            world = late_world(forms, replies_under(forms, contracts), promises[name])
            if world is not None:
                raise PromiseBroken(name, world)


class KeptRun:
    """A run with its deadline, and with the contracts that bind its calls."""

    def __init__(self, plan, deadline, contracts):
        self.run = Run(plan)
        self.due = deadline
        self.bound = {}
        self.bind(contracts)

    def bind(self, contracts):
        """Binds the calls that have started, but are not bound, by the contracts of their services."""
        services = self.run.plan.calls()
        for number, item in enumerate(self.run.record()):
            if item is not None and number not in self.bound:
                self.bound[number] = contracts[services[number]]

    def replies(self, contracts):
        """Returns the replies of each call that agree with the run, where contracts are those of other calls."""
        own = [self.bound.get(number, contracts[name]) for number, name in enumerate(self.run.plan.calls())]
        return agreeing_replies(self.run, own)

    def lateness(self, contracts):
        """Returns a world that agrees with the run, in which it ends after its deadline; None if it cannot."""
        if self.due is None or self.run.outcome() is not None:
            return None
        replies = self.replies(contracts)
        if any([is_empty(some) for some in replies]):
            return None
        return late_world(written_out(self.run.plan.forms), replies, self.due)


class Registry:
    """A registry, in which nothing is kept at first."""

    def __init__(self):
        self._contracts = {}
        self._plans = {}
        self._promises = {}
        self._runs = []

    def change(self, *, contracts=None, plans=None, promises=None):
        """Changes contracts, plans and promises at once, unless a promise would be broken."""
        new_contracts = changed(self._contracts, contracts)
        new_plans = changed(self._plans, plans)
        new_promises = changed(self._promises, promises)
        refuse_unknown_names(new_promises, new_plans)
        for name in sorted([] if plans is None else plans):
            check_plan(plans[name], new_contracts)
        refuse_broken_promises(new_plans, new_promises, new_contracts)
        for number, kept in enumerate(self._runs):
            world = kept.lateness(new_contracts)
            if world is not None:
                raise RunLate(number, world)
        self._contracts = new_contracts
        self._plans = new_plans
        self._promises = new_promises

    def _plan(self, name):
        """Returns the plan with a name."""
        if not isinstance(name, str) or name not in self._plans:
            raise UnknownName(name)
        return self._plans[name]

    def _kept(self, number):
        """Returns the run with a number, and what is kept with it."""
        if not is_integer(number) or not 0 <= number < len(self._runs):
            raise UnknownRun(number)
        return self._runs[number]

    def _agreeing(self, number):
        """Returns the replies of each call that agree with the run with a number."""
        replies = self._kept(number).replies(self._contracts)
        refuse_broken(replies)
        return replies

    def worst(self, name):
        """Returns the worst time of a plan, or None."""
        return outcomes(self._plan(name), self._contracts).worst()

    def deadline(self, name):
        """Returns the promised deadline of a plan, or None."""
        self._plan(name)
        return self._promises.get(name)

    def begin(self, name):
        """Begins a run of a plan, and returns its number."""
        self._runs.append(KeptRun(self._plan(name), self.deadline(name), self._contracts))
        return len(self._runs) - 1

    def close(self, number, time, replies):
        """Closes a time of a run."""
        kept = self._kept(number)
        kept.run.close(time, replies)
        kept.bind(self._contracts)

    def outcome(self, number):
        """Returns the outcome with which a run has ended, or None."""
        return self._kept(number).run.outcome()

    def possible(self, number):
        """Returns the outcomes that are still possible for a run."""
        plan, replies = self.bindings(number)
        return sets_of(written_out(plan.forms), replies)[0]

    def bindings(self, number):
        """Returns the plan of a run, and the list of the sets of replies of its calls."""
        replies = self._agreeing(number)
        return self._kept(number).run.plan, replies
