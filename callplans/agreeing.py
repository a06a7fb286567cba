"""The replies of calls that agree with what has happened in a run so far."""

from callplans.checks import refuse_unknown_services
from callplans.errors import Broken
from callplans.outcomes import Outcomes, allowed_by, alone, common, is_empty


def replies_after(contract, time):
    """Returns the replies later than a time that a contract allows, and never, if it does."""
    some = allowed_by(contract)
    return Outcomes(some.ok.since(time + 1), some.fail.since(time + 1), some.never)


def agreeing_reply(item, time, contract):
    """Returns the replies of a call that agree with its item of the record when a time is closed.

    There are none if the call has broken its contract.
    """
    if item is None:
        return allowed_by(contract)
    start = item[0]
    if len(item) == 1:
        return replies_after(contract, time - start)
    word, end = item[1], item[2]
    if word == "cancelled":
        return replies_after(contract, end - start)
    return common(allowed_by(contract), alone((word, end - start)))


def agreeing_replies(run, contracts):
    """Returns the list of the replies of each call that agree with a run, where contracts has one for each call."""
    return [agreeing_reply(item, run.time, contract) for item, contract in zip(run.record(), contracts)]


def refuse_broken(replies):
    """Raises Broken for the first call that has no replies left."""
    for number, some in enumerate(replies):
        if is_empty(some):
            raise Broken(number)


def agreeing_under(run, contracts):
    """Returns the list of the replies of each call that agree with a run, under the contracts of the services."""
    refuse_unknown_services(run.plan, contracts)
    replies = agreeing_replies(run, [contracts[name] for name in run.plan.calls()])
    refuse_broken(replies)
    return replies
