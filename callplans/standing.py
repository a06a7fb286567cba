"""Plans that may stand for other plans, and surrounding plans in which they are later."""

from callplans.evaluation import NEVER
from callplans.forms import HOLE
from callplans.outcomes import all_but, least_of, outcomes
from callplans.plans import Plan, plug

PAUSE_OF_ONE = ("pause", 1)


def surrounding_after(outcome, others):
    """Returns the surrounding plan in which an outcome leads to a later end than all the others."""
    if outcome == NEVER:
        return Plan((HOLE,))
    word, time = outcome
    if word == "ok":
        return Plan((("then",), ("within", time), HOLE, PAUSE_OF_ONE))
    # The failure ends ok behind all that ends ok otherwise, and at the limit, which all the others keep.
    limit = max(time, others.ok.greatest() + 1) if others.ok else time
    return Plan((("then",), ("within", limit), ("else",), HOLE, ("pause", limit - time), PAUSE_OF_ONE))


def surrounding_for(first, second, contracts):
    """Returns None if the first plan may stand for the second one, otherwise a surrounding plan where it is later."""
    some = outcomes(first, contracts)
    others = outcomes(second, contracts)
    found = least_of(all_but(some, others))
    return None if found is None else surrounding_after(found, others)


def is_later(surrounding, first, second, contracts):
    """Tells whether the worst time of the surrounding plan is later with the first plan than with the second one."""
    one = outcomes(plug(surrounding, first), contracts).worst()
    two = outcomes(plug(surrounding, second), contracts).worst()
    if two is None:
        return False
    return one is None or one > two
