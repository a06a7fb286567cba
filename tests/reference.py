"""Outcomes by the words of the document, world by world: what the tests compare the program with.

Plans are trees (see trees.py), contracts are dicts from names to Contract, a set of outcomes is a Python set.
"""

import itertools
import random

import trees

NEVER = ("never",)


def later(outcome, time):
    """Returns an outcome with a time added to its time."""
    return outcome if outcome == NEVER else (outcome[0], outcome[1] + time)


def times_with(word, *ended):
    """Returns the times of those outcomes that have the word."""
    return [outcome[1] for outcome in ended if outcome[0] == word]


def outcome_of_form(tree, replies):
    """Returns the outcome of a written-out tree; replies is an iterator over what is left of the world."""
    word = tree[0]
    if word == "call":
        return next(replies)
    if word == "pause":
        return ("ok", tree[1])
    if word == "fail":
        return ("fail", 0)
    if word == "within":
        inner = outcome_of_form(tree[2], replies)
        return ("fail", tree[1]) if inner == NEVER or inner[1] > tree[1] else inner
    first = outcome_of_form(tree[1], replies)
    second = outcome_of_form(tree[2], replies)
    if word == "then":
        return later(second, first[1]) if first[0] == "ok" else first
    if word == "else":
        return later(second, first[1]) if first[0] == "fail" else first
    ok, fail = times_with("ok", first, second), times_with("fail", first, second)
    if word == "both":
        return ("ok", max(ok)) if len(ok) == 2 else ("fail", min(fail)) if fail else NEVER
    return ("ok", min(ok)) if ok else ("fail", max(fail)) if len(fail) == 2 else NEVER


def outcome(tree, world):
    """Returns the outcome of a tree in a world."""
    return outcome_of_form(trees.written_out(tree), iter(world))


def replies(contract):
    """Returns all replies that a contract allows."""
    spans = [("ok", contract.ok), ("fail", contract.fail)]
    ended = [(word, time) for word, span in spans if span for time in range(span[0], span[1] + 1)]
    return ended + [NEVER] * contract.hang


def worlds(tree, contracts):
    """Returns an iterator over all worlds of a tree that the contracts allow."""
    return itertools.product(*[replies(contracts[name]) for name in trees.services(tree)])


def outcomes(tree, contracts):
    """Returns the set of all outcomes of a tree under contracts."""
    plain = trees.written_out(tree)
    return {outcome_of_form(plain, iter(world)) for world in worlds(plain, contracts)}


def worst(some):
    """Returns the worst time of a set of outcomes, or None."""
    return None if NEVER in some else max(time for _, time in some)


def times_in(times):
    """Returns the set of all times of a Times."""
    return {time for low, high in times.ranges for time in range(low, high + 1)}


def as_set(found):
    """Returns the set of all outcomes of an Outcomes."""
    ended = {("ok", time) for time in times_in(found.ok)} | {("fail", time) for time in times_in(found.fail)}
    return ended | {NEVER} if found.never else ended


def some_tree(source, calls, numbers, depth=3, names="abc"):
    """Returns a tree with that many calls at most, if it is written out; source is a random.Random."""
    if depth == 0 or source.random() < 0.1:
        leaf = ("call", source.choice(names)) if calls else ("pause", source.choice(numbers))
        return source.choice([leaf] * 6 + [("pause", source.choice(numbers)), ("fail",)])
    word = source.choice([*trees.PAIRS, *trees.PAIRS, "within", "within", "retry"])
    if word == "within":
        return (word, source.choice(numbers), some_tree(source, calls, numbers, depth - 1, names))
    if word == "retry":
        tries = source.randint(1, 3)
        return (word, tries, source.choice(numbers), some_tree(source, calls // tries, numbers, depth - 1, names))
    first = some_tree(source, source.randint(0, calls), numbers, depth - 1, names)
    left = calls - len(trees.services(first))
    return (word, first, some_tree(source, left, numbers, depth - 1, names))


def is_small(tree):
    """Tells whether a tree is that of a small plan."""
    calls, withins, forms = trees.size(tree)
    return calls <= 8 and withins <= 8 and forms <= 120


def some_trees(seed, many, calls, numbers, depth=3, names="abc"):
    """Returns small trees of all forms, the same ones for the same arguments."""
    source = random.Random(seed)
    made = [some_tree(source, calls, numbers, depth, names) for _ in range(2 * many)]
    return [tree for tree in made if is_small(tree)][:many]
