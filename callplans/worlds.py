"""Worlds: lists of replies, one for each call of a plan."""

from callplans.checks import check_plan, refuse_holes, refuse_large
from callplans.contracts import is_reply
from callplans.errors import BadWorld
from callplans.evaluation import outcome_of
from callplans.forms import written_out


def refuse_no_world(value, calls):
    """Raises BadWorld if a value is no world of a plan with that many calls."""
    if not isinstance(value, list):
        raise BadWorld(0)
    for number in range(calls):
        if number >= len(value) or not is_reply(value[number]):
            raise BadWorld(number)
    if len(value) > calls:
        raise BadWorld(calls)


def outcome_in(plan, world):
    """Returns the outcome of a plan in a world."""
    refuse_holes(plan)
    refuse_large(plan)
    refuse_no_world(world, len(plan.calls()))
    return outcome_of(written_out(plan.forms), world)


def is_allowed(plan, contracts, world):
    """Tells whether a value is a world of a plan whose replies the contracts allow."""
    check_plan(plan, contracts)
    services = plan.calls()
    if not isinstance(world, list) or len(world) != len(services):
        return False
    return all([contracts[name].allows(reply) for name, reply in zip(services, world)])
