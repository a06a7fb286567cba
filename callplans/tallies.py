"""Numbers of worlds, form by form: how many worlds of a plan end ok, fail, or never end.

The calls of the parts of a form are different ones, so each world of one part comes with each world of the other one.
"""

from callplans.forms import ends_of
from callplans.outcomes import EXCHANGED
from callplans.replies import many_times
from callplans.spreads import added, both_ended, ended_by, multiplied, one_after_the_other
from callplans.spreads import spread_at, spread_over, up_to


class Tally:
    """The spreads of the worlds that end ok and that fail, how many there are of each, and how many never end."""

    def __init__(self, ok, fail, many_ok, many_fail, never):
        self.ok = ok
        self.fail = fail
        self.many_ok = many_ok
        self.many_fail = many_fail
        self.never = never

    def many(self):
        """Returns the number of all worlds."""
        return self.many_ok + self.many_fail + self.never


def tally_of_replies(some):
    """Returns the tally of a call with a set of replies."""
    never = 1 if some.never else 0
    return Tally(spread_over(some.ok), spread_over(some.fail), many_times(some.ok), many_times(some.fail), never)


def exchanged_tally(tally):
    """Returns a tally with ok in the place of fail, and fail in that of ok."""
    return Tally(tally.fail, tally.ok, tally.many_fail, tally.many_ok, tally.never)


def tally_then(first, second):
    """Returns the tally of a then."""
    ok = one_after_the_other(first.ok, second.ok)
    fail = added(multiplied(first.fail, second.many()), one_after_the_other(first.ok, second.fail))
    many_fail = first.many_fail * second.many() + first.many_ok * second.many_fail
    never = first.never * second.many() + first.many_ok * second.never
    return Tally(ok, fail, first.many_ok * second.many_ok, many_fail, never)


def tally_both(first, second):
    """Returns the tally of a both."""
    ok = both_ended(first.ok, second.ok)
    # One or both have failed: the pairs where both have failed count for each part, but only once.
    fail = added(multiplied(first.fail, second.many()), multiplied(second.fail, first.many()))
    fail = added(fail, multiplied(both_ended(first.fail, second.fail), -1))
    many_ok = first.many_ok * second.many_ok
    many_fail = first.many_fail * second.many() + second.many_fail * (first.many() - first.many_fail)
    return Tally(ok, fail, many_ok, many_fail, first.many() * second.many() - many_ok - many_fail)


def tally_of_pair(word, first, second):
    """Returns the tally of two parts with a word between them."""
    if word in EXCHANGED:
        return exchanged_tally(tally_of_pair(EXCHANGED[word], exchanged_tally(first), exchanged_tally(second)))
    if word == "then":
        return tally_then(first, second)
    return tally_both(first, second)


def tally_within(limit, inner):
    """Returns the tally of a within."""
    many_ok = ended_by(inner.ok, limit)
    timed_out = inner.many() - many_ok - ended_by(inner.fail, limit)
    fail = added(up_to(inner.fail, limit), spread_at(limit, timed_out))
    return Tally(up_to(inner.ok, limit), fail, many_ok, inner.many() - many_ok, 0)


def tally_of(forms, replies):
    """Returns the tally of a written-out plan without holes, whose calls have the sets of replies."""
    ends = ends_of(forms)
    left = list(replies)
    found = [None] * len(forms)
    # Parts stand behind the form around them, so from the end they come first.
    for place in reversed(range(len(forms))):
        form = forms[place]
        if form[0] == "call":
            found[place] = tally_of_replies(left.pop())
        elif form[0] == "pause":
            found[place] = Tally(spread_at(form[1], 1), {}, 1, 0, 0)
        elif form[0] == "fail":
            found[place] = Tally({}, spread_at(0, 1), 0, 1, 0)
        elif form[0] == "within":
            found[place] = tally_within(form[1], found[place + 1])
        else:
            found[place] = tally_of_pair(form[0], found[place + 1], found[ends[place + 1]])
    return found[0]
