"""Settled bound plans, the calls that are reasons for their answers, and those that could change them.

A set of calls is a change if and only if the calls that are not in it are no reason. So the smallest changes follow
from the smallest reasons: they are the smallest sets that have a call in common with each of these.
"""

from callplans.endings import ending_world
from callplans.errors import NotSettled, OtherPlans
from callplans.forms import written_out
from callplans.outcomes import common, is_empty, sets_of
from callplans.replies import refuse_unknown_call


def answer_of(some, wanted):
    """Returns True if all outcomes of a set are wanted, False if none of them is, and otherwise None."""
    if some.is_within(wanted):
        return True
    return False if is_empty(common(some, wanted)) else None


def settled(bound, wanted):
    """Returns the answer of a bound plan for a set of outcomes, or None if it is open."""
    return answer_of(bound.outcomes(), wanted)


def settled_answer(wide, narrow, wanted):
    """Returns the answer of the narrow one of two bound plans, which have to fit each other."""
    if wide.plan != narrow.plan:
        raise OtherPlans("the plans are not equal")
    if not all([few.is_within(many) for few, many in zip(narrow.replies(), wide.replies())]):
        raise OtherPlans("a set of replies is not within the one of the wide plan")
    answer = settled(narrow, wanted)
    if answer is None:
        raise NotSettled("the narrow plan is open")
    return answer


def mixed(some, others, calls):
    """Returns the sets of some of the calls, beside those of the others."""
    return [some[number] if number in calls else others[number] for number in range(len(some))]


def parts_by_size(many):
    """Returns all sets of that many calls as ascending tuples, each one behind its own parts."""
    parts = [()]
    for number in range(many):
        parts = parts + [part + (number,) for part in parts]
    return sorted(parts, key=len)


def meets(part, other):
    """Tells whether two sets of calls have a call in common."""
    return any([number in other for number in part])


def is_part(part, whole):
    """Tells whether a set of calls is a part of another one."""
    return all([number in whole for number in part])


def smallest_reasons(wide, narrow, wanted):
    """Returns the list of the smallest reasons."""
    forms = written_out(wide.plan.forms)
    few, many = narrow.replies(), wide.replies()
    found = []
    for calls in parts_by_size(len(wide)):
        # What a smallest reason is a part of is a reason, but no smallest one.
        if not any([is_part(reason, calls) for reason in found]):
            if answer_of(sets_of(forms, mixed(few, many, calls))[0], wanted) is not None:
                found.append(calls)
    return found


def reasons(wide, narrow, wanted):
    """Returns the list of the smallest reasons for the answer of a narrow bound plan, in ascending order."""
    settled_answer(wide, narrow, wanted)
    return sorted(smallest_reasons(wide, narrow, wanted))


def changes(wide, narrow, wanted):
    """Returns the list of the smallest changes of the answer of a narrow bound plan, in ascending order."""
    settled_answer(wide, narrow, wanted)
    known = smallest_reasons(wide, narrow, wanted)
    found = []
    for calls in parts_by_size(len(wide)):
        if not any([is_part(change, calls) for change in found]):
            if all([meets(reason, calls) for reason in known]):
                found.append(calls)
    return sorted(found)


def world_ending(bound, wanted, *, inside=True):
    """Returns a world whose outcome is wanted, or is not, if inside is False; None if there is none."""
    return ending_world(written_out(bound.plan.forms), bound.replies(), wanted, inside)


def changed_world(wide, narrow, wanted, calls):
    """Returns None if a set of calls is no change, otherwise a world in which it changes the answer."""
    answer = settled_answer(wide, narrow, wanted)
    for number in calls:
        refuse_unknown_call(number, len(wide))
    replies = mixed(wide.replies(), narrow.replies(), calls)
    return ending_world(written_out(wide.plan.forms), replies, wanted, not answer)
