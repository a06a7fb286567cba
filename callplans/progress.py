"""How far a run has come: when the parts of a plan begin and are cut, and what its calls do.

All of it follows from the outcomes that the parts have if the calls without a reply so far never reply: as far as
these outcomes are not later than the last closed time, later replies do not change them.
"""

from callplans.evaluation import DECIDES, GOES_ON, NEVER, outcomes_at
from callplans.forms import ends_of, parts_at


def time_after(begin, outcome):
    """Returns the time at which a part that begins at a time ends, or None if it does not begin or end."""
    if begin is None or outcome == NEVER:
        return None
    return begin + outcome[1]


def begins_of(forms, ends, found):
    """Returns for each form the time at which its part begins, or None; found are the outcomes of the parts."""
    begins = [0] * len(forms)
    for place, form in enumerate(forms):
        parts = parts_at(forms, ends, place)
        for part in parts:
            begins[part] = begins[place]
        if form[0] in GOES_ON:
            first, second = parts
            goes_on = found[first][0] == GOES_ON[form[0]]
            begins[second] = time_after(begins[first], found[first]) if goes_on else None
    return begins


def earlier(time, other):
    """Returns the earlier one of two times, where None is behind all times."""
    if time is None:
        return other
    return time if other is None else min(time, other)


def cuts_of(forms, ends, begins, found):
    """Returns for each form the time at which its part is cut, or None."""
    cuts = [None] * len(forms)
    for place, form in enumerate(forms):
        cut = cuts[place]
        if form[0] in DECIDES or form[0] == "within":
            cut = earlier(cut, time_after(begins[place], found[place]))
        for part in parts_at(forms, ends, place):
            cuts[part] = cut
    return cuts


def item_of(begin, cut, reply, time):
    """Returns what is to be told of a call: None, (start,) or (start, word, end), when a time is closed."""
    if begin is None or begin > time or (cut is not None and cut <= begin):
        return None
    if reply != NEVER:
        return (begin, reply[0], begin + reply[1])
    if cut is not None and cut <= time:
        return (begin, "cancelled", cut)
    return (begin,)


def items_of(forms, replies, time):
    """Returns what is to be told of each call of a written-out plan when a time is closed.

    The replies are those so far, each one counted from the start of its call, and never for the other calls.
    """
    found = outcomes_at(forms, replies)
    ends = ends_of(forms)
    begins = begins_of(forms, ends, found)
    cuts = cuts_of(forms, ends, begins, found)
    return [item_of(begins[place], cuts[place], found[place], time)
            for place, form in enumerate(forms) if form[0] == "call"]


def starts_of(items):
    """Returns the dict from the calls that wait to their starts, ascending."""
    return {number: item[0] for number, item in enumerate(items) if item is not None and len(item) == 1}
