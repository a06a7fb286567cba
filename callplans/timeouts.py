"""Good numbers: timeouts with which a plan keeps a deadline."""

from callplans.checks import refuse_large, refuse_unknown_services
from callplans.errors import HasHole, NoMark
from callplans.forms import HOLE, MARK, ends_of, is_in_retry, written_out
from callplans.harm import harmful
from callplans.outcomes import Outcomes, replies_under, sets_of
from callplans.times import Times, times_outside

GREATEST_GOOD = 1000000


def has_good_mark(forms):
    """Tells whether a plan has exactly one mark, which does not stand inside of a retry."""
    if forms.count(MARK) != 1:
        return False
    return not is_in_retry(forms, forms.index(MARK))


def check_marked(plan, contracts):
    """Raises the first error of a plan with a mark."""
    if not has_good_mark(plan.forms):
        raise NoMark("the plan needs exactly one mark, outside of retries")
    if HOLE in plan.forms:
        raise HasHole("the plan has a hole")
    refuse_unknown_services(plan, contracts)
    refuse_large(plan)


def numbers_from(times):
    """Returns the list of the range of the numbers from the least time on, or an empty list if there is none."""
    return [(times.least(), GREATEST_GOOD)] if times else []


def bad_numbers(inner, harm):
    """Returns the numbers of a within around inner outcomes, with which it has a harmful outcome.

    The harmful ones have times up to the greatest number.
    """
    in_time = numbers_from(inner.ok & harm.ok) + numbers_from(inner.fail & harm.fail)
    worst = inner.worst()
    timed_out = harm.fail if worst is None else harm.fail.up_to(worst - 1)
    return Times(in_time) | timed_out


def good_numbers(plan, contracts, deadline):
    """Returns the Times of the good numbers of a plan with a mark for a deadline."""
    check_marked(plan, contracts)
    forms = written_out(plan.forms)
    mark = forms.index(MARK)
    end = ends_of(forms)[mark]
    inside = forms[mark + 1:end]
    around = forms[:mark] + (HOLE,) + forms[end:]
    in_time = Times([(0, deadline)])
    wanted = Outcomes(in_time, in_time, False)
    harm = harmful(around, replies_under(around, contracts), wanted, GREATEST_GOOD)
    inner = sets_of(inside, replies_under(inside, contracts))[0]
    return times_outside(bad_numbers(inner, harm), GREATEST_GOOD)
