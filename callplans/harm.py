"""The outcomes of a hole that can lead out of a set of outcomes of the plan around it.

From the outside to the hole, the outcomes of each form that are harmful tell which ones of its part are: an outcome
of the part is harmful if, with some outcome of the part beside it, it leads to a harmful one of the form.
"""

from callplans.forms import HOLE, ends_of
from callplans.outcomes import EXCHANGED, Outcomes, exchanged, sets_of
from callplans.times import Times, times_before, times_outside


def all_outcomes(far):
    """Returns all outcomes with times up to far."""
    return Outcomes(Times([(0, far)]), Times([(0, far)]), True)


def harmful_then_first(harm, second, far):
    """Returns the harmful outcomes of the first part of a then."""
    ok = times_before(harm.ok, second.ok) | times_before(harm.fail, second.fail)
    if harm.never and second.never:
        ok = Times([(0, far)])
    return Outcomes(ok, harm.fail, harm.never)


def harmful_then_second(harm, first, far):
    """Returns the harmful outcomes of the second part of a then."""
    if (harm.fail & first.fail) or (harm.never and first.never):
        return all_outcomes(far)
    never = harm.never and bool(first.ok)
    return Outcomes(times_before(harm.ok, first.ok), times_before(harm.fail, first.ok), never)


def harmful_ok_of_both(harm, other, far):
    """Returns the harmful times of ok of a part of a both."""
    if (harm.fail & other.fail) or (harm.never and other.never):
        return Times([(0, far)])
    if not other.ok:
        return Times([])
    ok = harm.ok.since(other.ok.least())
    behind = harm.ok & other.ok
    if behind:
        ok = ok | Times([(0, behind.greatest())])
    return ok


def harmful_fail_of_both(harm, other, far):
    """Returns the harmful times of fail of a part of a both."""
    fail = harm.fail if other.ok or other.never else harm.fail.up_to(other.fail.greatest())
    ahead = harm.fail & other.fail
    if ahead:
        fail = fail | Times([(ahead.least(), far)])
    return fail


def harmful_both(harm, other, far):
    """Returns the harmful outcomes of a part of a both."""
    never = bool(harm.fail & other.fail) or (harm.never and (other.never or bool(other.ok)))
    return Outcomes(harmful_ok_of_both(harm, other, far), harmful_fail_of_both(harm, other, far), never)


def harmful_first(word, harm, second, far):
    """Returns the harmful outcomes of the first part of a pair."""
    if word in EXCHANGED:
        return exchanged(harmful_first(EXCHANGED[word], exchanged(harm), exchanged(second), far))
    if word == "then":
        return harmful_then_first(harm, second, far)
    return harmful_both(harm, second, far)


def harmful_second(word, harm, first, far):
    """Returns the harmful outcomes of the second part of a pair."""
    if word in EXCHANGED:
        return exchanged(harmful_second(EXCHANGED[word], exchanged(harm), exchanged(first), far))
    if word == "then":
        return harmful_then_second(harm, first, far)
    return harmful_both(harm, first, far)


def harmful_inside(limit, harm, far):
    """Returns the harmful outcomes of what stands inside of a within."""
    timed_out = limit in harm.fail
    late = Times([(limit + 1, far)]) if timed_out and limit < far else Times([])
    return Outcomes(harm.ok.up_to(limit) | late, harm.fail.up_to(limit) | late, timed_out)


def longest(forms, replies):
    """Returns a time that is not below the sum of all times that a plan and its replies can add."""
    numbers = [form[1] for form in forms if form[0] == "pause" or form[0] == "within"]
    return sum(numbers) + sum([some.latest() for some in replies])


def leading_to(forms, replies, harm, most):
    """Returns the outcomes of the hole, with times up to most, that lead to one of a set in some world.

    The plan is written out and has one hole; replies are the sets of replies of its calls.
    """
    hole = forms.index(HOLE)
    ends = ends_of(forms)
    # Only the sets of what stands beside the hole are read, so anything may stand in its place.
    sets = sets_of(forms[:hole] + (("fail",),) + forms[hole + 1:], replies)
    far = most + longest(forms, replies)
    place = 0
    while place < hole:
        first = place + 1
        if forms[place][0] == "within":
            harm = harmful_inside(forms[place][1], harm, far)
            place = first
        elif hole < ends[first]:
            harm = harmful_first(forms[place][0], harm, sets[ends[first]], far)
            place = first
        else:
            harm = harmful_second(forms[place][0], harm, sets[first], far)
            place = ends[first]
    return Outcomes(harm.ok.up_to(most), harm.fail.up_to(most), harm.never)


def harmful(forms, replies, wanted, most):
    """Returns the outcomes of the hole, with times up to most, that lead out of the wanted set in some world."""
    # Each form around the hole takes away some of the times at the end, for which nothing is known any more.
    far = most + longest(forms, replies)
    harm = Outcomes(times_outside(wanted.ok, far), times_outside(wanted.fail, far), not wanted.never)
    return leading_to(forms, replies, harm, most)
