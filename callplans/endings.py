"""Worlds that end as it is asked for, out of sets of replies of the calls of a written-out plan."""

from callplans.choosing import chosen_world
from callplans.outcomes import Outcomes, all_but, common, least_of, sets_of
from callplans.times import Times


def ending_world(forms, replies, wanted, inside):
    """Returns a world whose outcome is in the wanted set, or is not in it, as inside tells; None if there is none."""
    sets = sets_of(forms, replies)
    fitting = common(sets[0], wanted) if inside else all_but(sets[0], wanted)
    outcome = least_of(fitting)
    return None if outcome is None else chosen_world(forms, sets, outcome)


def late_world(forms, replies, deadline):
    """Returns a world that ends later than a deadline, or never; None if there is none."""
    in_time = Times([(0, deadline)])
    return ending_world(forms, replies, Outcomes(in_time, in_time, False), False)
