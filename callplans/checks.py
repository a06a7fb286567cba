"""Checks of plans, in the order in which their errors are raised: HasHole, UnknownService, TooLarge."""

from callplans.errors import HasHole, TooLarge, UnknownService
from callplans.forms import HOLE, MARK
from callplans.plans import MOST_CALLS

MOST_WITHINS = 8
MOST_FORMS = 120


def refuse_holes(plan):
    """Raises HasHole if a plan has a hole or a mark."""
    if HOLE in plan.forms or MARK in plan.forms:
        raise HasHole("the plan has a hole or a mark")


def refuse_unknown_services(plan, contracts):
    """Raises UnknownService for the first call whose service has no contract."""
    # Written out or not, the services come up in the same order, and what is written out may be very long.
    for form in plan.forms:
        if form[0] == "call" and form[1] not in contracts:
            raise UnknownService(form[1])


def refuse_large(plan):
    """Raises TooLarge if a plan is not small."""
    calls, withins, forms = plan.size()
    if calls > MOST_CALLS or withins > MOST_WITHINS or forms > MOST_FORMS:
        raise TooLarge("the plan is not small")


def check_plan(plan, contracts):
    """Raises the first error of a plan under contracts."""
    refuse_holes(plan)
    refuse_unknown_services(plan, contracts)
    refuse_large(plan)
