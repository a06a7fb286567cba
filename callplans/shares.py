"""Shares of the worlds of a bound plan."""

from math import gcd

from callplans.counts import Counts
from callplans.errors import BadShare
from callplans.values import is_integer


def is_share(value):
    """Tells whether a value is a fraction from 0 to 1 in lowest terms."""
    if not isinstance(value, tuple) or len(value) != 2:
        return False
    top, bottom = value
    if not is_integer(top) or not is_integer(bottom):
        return False
    return 0 <= top <= bottom and gcd(top, bottom) == 1


def share_of(bound, wanted):
    """Returns the share of a set of outcomes."""
    counts = Counts(bound)
    found, many = counts.within(wanted), counts.all_worlds()
    common = gcd(found, many)
    return (found // common, many // common)


def ended(counts, time, word):
    """Returns how many worlds have ended up to a time, or have ended ok, as the word tells."""
    ok = counts.ok_by(time)
    return ok if word == "ok" else ok + counts.fail_by(time)


def time_for(bound, share, *, word=None):
    """Returns the least time by which at least a share of all worlds has ended, or None if fewer ever end."""
    if not is_share(share):
        raise BadShare("a share is a fraction from 0 to 1 in lowest terms")
    counts = Counts(bound)
    top, bottom = share
    needed = top * counts.all_worlds()
    low, high = 0, bound.outcomes().latest()
    if ended(counts, high, word) * bottom < needed:
        return None
    while low < high:
        middle = (low + high) // 2
        if ended(counts, middle, word) * bottom < needed:
            low = middle + 1
        else:
            high = middle
    return low
