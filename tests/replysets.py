"""Sets of replies and of outcomes, and worlds of them, for the tests of bound plans and what rests on them."""

import itertools

import reference
import trees
from callplans.bound import Bound
from callplans.outcomes import Outcomes
from callplans.plans import Plan
from callplans.times import Times

NEVER = ("never",)


def outcomes_in(some):
    """Returns the Outcomes of a collection of outcomes."""
    ok = [(end[1], end[1]) for end in some if end[0] == "ok"]
    fail = [(end[1], end[1]) for end in some if end[0] == "fail"]
    return Outcomes(Times(ok), Times(fail), NEVER in some)


def made(ok=(), fail=(), never=False):
    """Returns the Outcomes of ranges."""
    return Outcomes(Times(list(ok)), Times(list(fail)), never)


def some_ranges(source, far):
    """Returns at most two ranges of times from 1; source is a random.Random."""
    found = []
    for _ in range(source.choice([0, 1, 1, 2])):
        low = source.randint(1, far)
        found.append((low, low + source.choice([0, 0, 1, 2])))
    return found


def some_set(source, far=4):
    """Returns a set of few replies."""
    found = made(some_ranges(source, far), some_ranges(source, far), source.random() < 0.2)
    return found if reference.as_set(found) else some_set(source, far)


def some_sets(source, many, far=4):
    """Returns that many sets of few replies, with at most 16 ranges in all."""
    found = [some_set(source, far) for _ in range(many)]
    ranges = sum(len(some.ok.ranges) + len(some.fail.ranges) for some in found)
    return found if ranges <= 16 else some_sets(source, many, far)


def part_of(source, some):
    """Returns a set of replies within another one."""
    ends = sorted(reference.as_set(some), key=str)
    while True:
        found = outcomes_in(source.sample(ends, source.randint(1, min(len(ends), 4))))
        if len(found.ok.ranges) <= 2 and len(found.fail.ranges) <= 2:
            return found


def one_of(source, some):
    """Returns a set of one of the replies of a set."""
    return outcomes_in([source.choice(sorted(reference.as_set(some), key=str))])


def some_wanted(source, far=12):
    """Returns any set of outcomes."""
    spans = [(start, start + source.choice([0, 1, 3, 8])) for start in [source.randint(0, far) for _ in range(4)]]
    return made(spans[:source.randint(0, 2)], spans[source.randint(2, 4):], source.random() < 0.4)


def plan_of(tree):
    """Returns the plan of a tree."""
    return Plan.parse(trees.text_of(tree))


def some_bounds(source, seed, many, calls, numbers=(0, 1, 2, 3, 5), depth=3, far=4):
    """Returns a list of tuples of a tree and of a bound plan of it with few replies."""
    found = reference.some_trees(seed, many, calls, list(numbers), depth=depth)
    return [(tree, Bound(plan_of(tree), some_sets(source, len(trees.services(tree)), far))) for tree in found]


def worlds(sets):
    """Returns the list of all lists of replies from sets."""
    return [list(world) for world in itertools.product(*[sorted(reference.as_set(some), key=str) for some in sets])]


def outcomes_of(tree, sets):
    """Returns the list of the outcomes of a tree in all worlds of sets of replies."""
    plain = trees.written_out(tree)
    return [reference.outcome_of_form(plain, iter(world)) for world in worlds(sets)]


def great_sets(source, many):
    """Returns that many sets of replies at any times, with at most 16 ranges in all."""
    found = []
    for _ in range(many):
        low, middle, high = sorted(source.sample(range(1, 10**6), 3))
        found.append(source.choice([made([(low, middle)], [(middle, high)]), made([(low, high)], [], True),
                                    made([(low, middle), (middle + 2, high + 2)]), made([], [(low, high)]),
                                    made([(low, low)], [(high, high)], True)]))
    return found


def ends_and_beside(times):
    """Returns the times at the ends of the ranges, in their midst, and one beside them."""
    found = [time for low, high in times.ranges for time in (low - 1, low, (low + high) // 2, high, high + 1)]
    return [time for time in found if time >= 0]


def wide_sets(many, words=("ok", "fail"), hang=False, low=1):
    """Returns that many sets of all replies of the words."""
    span = [(low, 10**6)]
    return [made(span if "ok" in words else [], span if "fail" in words else [], hang) for _ in range(many)]
