"""Sets of outcomes, and the outcomes of plans under contracts.

The calls of the parts of a form are different ones, so the parts have their outcomes independently of each other:
the outcomes of a form are those for each outcome of one part beside each outcome of the other one.
"""

from callplans.checks import check_plan
from callplans.choosing import chosen_world
from callplans.errors import NoOutcome
from callplans.evaluation import NEVER
from callplans.forms import ends_of, written_out
from callplans.times import Times, times_but

# Where ok and fail are exchanged, these words are exchanged, too.
EXCHANGED = {"else": "then", "either": "both"}


class Outcomes:
    """A set of outcomes. It never changes."""

    def __init__(self, ok, fail, never):
        self.ok = ok
        self.fail = fail
        self.never = never

    def __contains__(self, outcome):
        if not isinstance(outcome, tuple):
            return False
        if len(outcome) == 2 and outcome[0] == "ok":
            return outcome[1] in self.ok
        if len(outcome) == 2 and outcome[0] == "fail":
            return outcome[1] in self.fail
        return self.never and outcome == NEVER

    def __eq__(self, other):
        return (isinstance(other, Outcomes) and self.ok == other.ok and self.fail == other.fail
                and self.never == other.never)

    def is_within(self, other):
        """Tells whether each outcome is in another set, too."""
        return (self.ok.is_within(other.ok) and self.fail.is_within(other.fail)
                and (other.never or not self.never))

    def latest(self):
        """Returns the greatest time of an outcome that ends, or 0 if there is none."""
        return max([0] + [times.greatest() for times in (self.ok, self.fail) if times])

    def worst(self):
        """Returns the worst time, or None if never is among the outcomes."""
        return None if self.never else self.latest()


def times_at(time):
    """Returns the Times of one time."""
    return Times([(time, time)])


def common(some, others):
    """Returns the outcomes that are in both of two sets."""
    return Outcomes(some.ok & others.ok, some.fail & others.fail, some.never and others.never)


def all_but(some, others):
    """Returns the outcomes of a set that are not in another one."""
    never = some.never and not others.never
    return Outcomes(times_but(some.ok, others.ok), times_but(some.fail, others.fail), never)


def is_empty(some):
    """Tells whether a set has no outcomes."""
    return not (some.ok or some.fail or some.never)


def alone(outcome):
    """Returns the set of one outcome."""
    if outcome == NEVER:
        return Outcomes(Times([]), Times([]), True)
    if outcome[0] == "ok":
        return Outcomes(times_at(outcome[1]), Times([]), False)
    return Outcomes(Times([]), times_at(outcome[1]), False)


def least_of(some):
    """Returns the least outcome of a set: never ahead of ok, and ok ahead of fail; None if there is none."""
    if some.never:
        return NEVER
    if some.ok:
        return ("ok", some.ok.least())
    return ("fail", some.fail.least()) if some.fail else None


def allowed_by(contract):
    """Returns the replies that a contract allows."""
    ok = [] if contract.ok is None else [contract.ok]
    fail = [] if contract.fail is None else [contract.fail]
    return Outcomes(Times(ok), Times(fail), contract.hang)


def replies_under(forms, contracts):
    """Returns the list of the replies that contracts allow for each call."""
    return [allowed_by(contracts[form[1]]) for form in forms if form[0] == "call"]


def exchanged(some):
    """Returns a set of outcomes with ok in the place of fail, and fail in that of ok."""
    return Outcomes(some.fail, some.ok, some.never)


def set_then(first, second):
    """Returns the outcomes of a then."""
    fail = first.fail | (first.ok + second.fail)
    return Outcomes(first.ok + second.ok, fail, first.never or (bool(first.ok) and second.never))


def both_ok(first, second):
    """Returns the times at which two parts have both ended ok."""
    if not first.ok or not second.ok:
        return Times([])
    return first.ok.since(second.ok.least()) | second.ok.since(first.ok.least())


def fail_ahead(part, other):
    """Returns the times of fail of a part at which the other part has not failed before."""
    if other.ok or other.never:
        return part.fail
    return part.fail.up_to(other.fail.greatest())


def set_both(first, second):
    """Returns the outcomes of a both."""
    fail = fail_ahead(first, second) | fail_ahead(second, first)
    never = (first.never and (second.never or bool(second.ok))) or (second.never and bool(first.ok))
    return Outcomes(both_ok(first, second), fail, never)


def set_of_pair(word, first, second):
    """Returns the outcomes of two parts with a word between them."""
    if word in EXCHANGED:
        return exchanged(set_of_pair(EXCHANGED[word], exchanged(first), exchanged(second)))
    if word == "then":
        return set_then(first, second)
    return set_both(first, second)


def set_within(limit, inner):
    """Returns the outcomes of a within."""
    fail = inner.fail.up_to(limit)
    if inner.never or inner.latest() > limit:
        fail = fail | times_at(limit)
    return Outcomes(inner.ok.up_to(limit), fail, False)


def sets_of(forms, replies):
    """Returns for each form of a written-out plan without holes the outcomes of the plan that begins with it."""
    ends = ends_of(forms)
    left = list(replies)
    sets = [None] * len(forms)
    # Parts stand behind the form around them, so from the end they come first.
    for place in reversed(range(len(forms))):
        form = forms[place]
        if form[0] == "call":
            sets[place] = left.pop()
        elif form[0] == "pause":
            sets[place] = alone(("ok", form[1]))
        elif form[0] == "fail":
            sets[place] = alone(("fail", 0))
        elif form[0] == "within":
            sets[place] = set_within(form[1], sets[place + 1])
        else:
            sets[place] = set_of_pair(form[0], sets[place + 1], sets[ends[place + 1]])
    return sets


def outcomes(plan, contracts):
    """Returns the outcomes of a plan."""
    check_plan(plan, contracts)
    forms = written_out(plan.forms)
    return sets_of(forms, replies_under(forms, contracts))[0]


def world_for(plan, contracts, outcome):
    """Returns a world that the contracts allow, in which the plan has the outcome."""
    check_plan(plan, contracts)
    forms = written_out(plan.forms)
    sets = sets_of(forms, replies_under(forms, contracts))
    if outcome not in sets[0]:
        raise NoOutcome(outcome)
    return chosen_world(forms, sets, outcome)
