"""Sets of times."""

from callplans.errors import BadRange
from callplans.values import is_integer, is_range


def fewest_ranges(ranges):
    """Returns the ascending list of as few ranges as possible that have the same times."""
    found = []
    for low, high in sorted(ranges):
        if found and low <= found[-1][1] + 1:
            found[-1] = (found[-1][0], max(found[-1][1], high))
        else:
            found.append((low, high))
    return found


def common_ranges(first, second):
    """Returns the ranges of the times that are in both of two ascending tuples of ranges."""
    found = []
    one = two = 0
    while one < len(first) and two < len(second):
        low = max(first[one][0], second[two][0])
        high = min(first[one][1], second[two][1])
        if low <= high:
            found.append((low, high))
        # The range that ends first has nothing in common with what follows in the other tuple.
        if first[one][1] < second[two][1]:
            one += 1
        else:
            two += 1
    return found


class Times:
    """A set of times: all integers in the ranges of a list. It never changes."""

    def __init__(self, ranges):
        if not isinstance(ranges, list) or not all([is_range(span, 0) for span in ranges]):
            raise BadRange("this is not a list of ranges of times from 0")
        self.ranges = tuple(fewest_ranges(ranges))

    def __or__(self, other):
        return Times(list(self.ranges + other.ranges))

    def __and__(self, other):
        return Times(common_ranges(self.ranges, other.ranges))

    def __add__(self, other):
        return Times([(low + more[0], high + more[1]) for low, high in self.ranges for more in other.ranges])

    def __contains__(self, time):
        return is_integer(time) and any([low <= time <= high for low, high in self.ranges])

    def __bool__(self):
        return bool(self.ranges)

    def __eq__(self, other):
        return isinstance(other, Times) and self.ranges == other.ranges

    def least(self):
        """Returns the least time, or None if there is none."""
        return self.ranges[0][0] if self.ranges else None

    def greatest(self):
        """Returns the greatest time, or None if there is none."""
        return self.ranges[-1][1] if self.ranges else None

    def up_to(self, time):
        """Returns the Times that are at most a time."""
        return Times([(low, min(high, time)) for low, high in self.ranges if low <= time])

    def since(self, time):
        """Returns the Times that are at least a time."""
        return Times([(max(low, time), high) for low, high in self.ranges if high >= time])

    def is_within(self, other):
        """Tells whether each time belongs to another set, too."""
        return (self & other) == self


def times_before(ends, lengths):
    """Returns the Times of all starts from which one of the lengths leads to one of the ends."""
    return Times([(max(0, low - most), high - least) for low, high in ends.ranges
                  for least, most in lengths.ranges if high >= least])


def times_but(times, others):
    """Returns the Times of a set that are not in another one."""
    return times & times_outside(others, times.greatest()) if times else times


def times_outside(times, most):
    """Returns the Times from 0 to most that are not in a set."""
    found = []
    start = 0
    for low, high in times.up_to(most).ranges:
        if start < low:
            found.append((start, low - 1))
        start = high + 1
    if start <= most:
        found.append((start, most))
    return Times(found)
