"""Chooses replies that lead to an outcome: from the outcome of each form, outcomes of its parts that make it."""

from callplans.evaluation import GOES_ON, NEVER, outcome_of_pair, outcome_within
from callplans.forms import PAIR_WORDS, ends_of
from callplans.times import Times, times_before


def times_of(some, word):
    """Returns the times of the outcomes with a word, ok or fail, in a set of outcomes."""
    return some.ok if word == "ok" else some.fail


def ends_and(wanted, some):
    """Returns the wanted outcome, if it is in a set, and the earliest, the latest and the endless ones of the set.

    Beside the times that add up in a then or an else, no others are needed: a part has the outcome of the form
    around it, or has to be as early or as late as it can be, so that it does not matter.
    """
    found = [wanted, NEVER]
    for word in ("ok", "fail"):
        times = times_of(some, word)
        found = found + [(word, times.least()), (word, times.greatest())]
    return [outcome for outcome in found if outcome in some]


def adding_up(word, wanted, first, second):
    """Returns a list of the outcomes of two parts, one after the other, whose times add up to that of the wanted one.

    The list is empty if there are none.
    """
    if word not in GOES_ON or wanted == NEVER:
        return []
    rests = times_of(second, wanted[0])
    starts = times_of(first, GOES_ON[word]) & times_before(Times([(wanted[1], wanted[1])]), rests)
    if not starts:
        return []
    start = starts.least()
    return [((GOES_ON[word], start), (wanted[0], wanted[1] - start))]


def chosen_parts(word, wanted, first, second):
    """Returns outcomes of two parts with a word between them that make the wanted outcome, which has to be possible."""
    pairs = [(one, two) for one in ends_and(wanted, first) for two in ends_and(wanted, second)]
    pairs = pairs + adding_up(word, wanted, first, second)
    return [pair for pair in pairs if outcome_of_pair(word, pair[0], pair[1]) == wanted][0]


def chosen_inside(limit, wanted, inner):
    """Returns an outcome of what stands inside of a within that makes the wanted outcome, which has to be possible."""
    return [outcome for outcome in ends_and(wanted, inner) if outcome_within(limit, outcome) == wanted][0]


def chosen_world(forms, sets, outcome):
    """Returns a world in which a written-out plan, whose forms have the sets of outcomes, has one of its outcomes."""
    ends = ends_of(forms)
    wanted = {0: outcome}
    world = []
    for place, form in enumerate(forms):
        first = place + 1
        if form[0] == "call":
            world.append(wanted[place])
        elif form[0] == "within":
            wanted[first] = chosen_inside(form[1], wanted[place], sets[first])
        elif form[0] in PAIR_WORDS:
            second = ends[first]
            wanted[first], wanted[second] = chosen_parts(form[0], wanted[place], sets[first], sets[second])
    return world
