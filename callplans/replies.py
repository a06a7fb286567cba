"""Sets of replies, and worlds of calls that have such sets."""

from callplans.contracts import FIRST_TIME, LAST_TIME
from callplans.errors import BadReplies, BadWorld, UnknownCall
from callplans.outcomes import Outcomes, is_empty
from callplans.values import is_integer

MOST_RANGES_OF_A_WORD = 2
MOST_RANGES = 16


def are_times_of_replies(times):
    """Tells whether a set of times may be that of the replies with one word."""
    if len(times.ranges) > MOST_RANGES_OF_A_WORD:
        return False
    return all([FIRST_TIME <= low and high <= LAST_TIME for low, high in times.ranges])


def is_set_of_replies(value):
    """Tells whether a value is a set of replies."""
    if not isinstance(value, Outcomes) or is_empty(value):
        return False
    return are_times_of_replies(value.ok) and are_times_of_replies(value.fail)


def refuse_bad_replies(value, calls):
    """Raises BadReplies if a value is no list of sets of replies for that many calls."""
    if not isinstance(value, list):
        raise BadReplies(0)
    for number in range(calls):
        if number >= len(value) or not is_set_of_replies(value[number]):
            raise BadReplies(number)
    if len(value) > calls:
        raise BadReplies(calls)
    if sum([len(some.ok.ranges) + len(some.fail.ranges) for some in value]) > MOST_RANGES:
        raise BadReplies(calls)


def refuse_unknown_call(value, calls):
    """Raises UnknownCall if a value is not the number of one of that many calls."""
    if not is_integer(value) or not 0 <= value < calls:
        raise UnknownCall(value)


def refuse_other_world(value, replies):
    """Raises BadWorld if a value is no list of replies, each one from the set of its call."""
    if not isinstance(value, list):
        raise BadWorld(0)
    for number, some in enumerate(replies):
        if number >= len(value) or value[number] not in some:
            raise BadWorld(number)
    if len(value) > len(replies):
        raise BadWorld(len(replies))


def many_times(times):
    """Returns the number of times in a set."""
    return sum([high - low + 1 for low, high in times.ranges])


def many_replies(some):
    """Returns the number of replies in a set."""
    return many_times(some.ok) + many_times(some.fail) + (1 if some.never else 0)
