"""Frames: surrounding plans with a set of replies for each of their calls."""

from callplans.checks import refuse_large
from callplans.endings import ending_world
from callplans.errors import NoHole
from callplans.evaluation import outcome_of
from callplans.forms import HOLE, MARK, is_in_retry, written_out
from callplans.harm import harmful, leading_to
from callplans.outcomes import Outcomes, alone, is_empty, sets_of
from callplans.plans import Plan, plug
from callplans.replies import refuse_bad_replies, refuse_other_world, refuse_unknown_call
from callplans.times import Times, times_outside

# What stands in the place of the hole where its outcome is given like the reply of a call.
FILLING = ("call", "hole")


def has_good_hole(forms):
    """Tells whether a plan has exactly one hole, which does not stand inside of a retry, and no mark."""
    if forms.count(HOLE) != 1 or MARK in forms:
        return False
    return not is_in_retry(forms, forms.index(HOLE))


def many_calls(forms):
    """Returns the number of the calls among forms."""
    return len([form for form in forms if form[0] == "call"])


class Frame:
    """A surrounding plan with a set of replies for each of its calls. It never changes."""

    def __init__(self, surrounding, replies):
        if not has_good_hole(surrounding.forms):
            raise NoHole("a frame has exactly one hole, outside of retries, and no mark")
        refuse_large(surrounding)
        refuse_bad_replies(replies, len(surrounding.calls()))
        self.surrounding = surrounding
        self._replies = tuple(replies)
        self._forms = written_out(surrounding.forms)

    def __call__(self, outcome, world):
        """Returns the outcome of the frame to which an outcome of the hole leads in a world."""
        refuse_other_world(world, self._replies)
        return outcome_of(self._filled(), self._with_hole(world, outcome))

    def _filled(self):
        """Returns the forms with a call in the place of the hole."""
        hole = self._forms.index(HOLE)
        return self._forms[:hole] + (FILLING,) + self._forms[hole + 1:]

    def _ahead(self):
        """Returns the number of the calls ahead of the hole."""
        return many_calls(self._forms[:self._forms.index(HOLE)])

    def _with_hole(self, replies, of_hole):
        """Returns the list of what is told of each call, and of the hole among them."""
        ahead = self._ahead()
        return list(replies[:ahead]) + [of_hole] + list(replies[ahead:])

    def replies(self):
        """Returns the list of the sets of replies of the calls."""
        return list(self._replies)

    def harmless(self, wanted, *, most):
        """Returns the outcomes of the hole, with times up to most, that lead to wanted outcomes in every world."""
        harm = harmful(self._forms, self._replies, wanted, most)
        return Outcomes(times_outside(harm.ok, most), times_outside(harm.fail, most), not harm.never)

    def hopeful(self, wanted, *, most):
        """Returns the outcomes of the hole, with times up to most, that lead to a wanted outcome in some world."""
        return leading_to(self._forms, self._replies, wanted, most)

    def effects(self, given):
        """Returns all outcomes of the frame to which outcomes of the hole lead."""
        if is_empty(given):
            return Outcomes(Times([]), Times([]), False)
        return sets_of(self._filled(), self._with_hole(self._replies, given))[0]

    def against(self, wanted, outcome):
        """Returns None if an outcome of the hole is harmless, otherwise a world in which it is not."""
        replies = self._with_hole(self._replies, alone(outcome))
        world = ending_world(self._filled(), replies, wanted, False)
        if world is None:
            return None
        ahead = self._ahead()
        return world[:ahead] + world[ahead + 1:]

    def around(self, inner):
        """Returns the frame with another frame in the place of its hole."""
        ahead = self._ahead()
        replies = list(self._replies[:ahead]) + inner.replies() + list(self._replies[ahead:])
        return Frame(plug(self.surrounding, inner.surrounding), replies)


def framed(bound, number):
    """Returns the frame of a bound plan, whose hole stands in the place of a call."""
    refuse_unknown_call(number, len(bound))
    forms = written_out(bound.plan.forms)
    places = [place for place, form in enumerate(forms) if form[0] == "call"]
    place = places[number]
    replies = bound.replies()
    return Frame(Plan(forms[:place] + (HOLE,) + forms[place + 1:]), replies[:number] + replies[number + 1:])
