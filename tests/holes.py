"""Trees with a hole, which stands in no retry."""

import trees

HOLE = ("hole",)


def with_hole(tree):
    """Returns the trees with the hole in the place of one of the parts of a tree, which stands in no retry."""
    found = [HOLE]
    if tree[0] in trees.PAIRS:
        found += [(tree[0], first, tree[2]) for first in with_hole(tree[1])]
        found += [(tree[0], tree[1], second) for second in with_hole(tree[2])]
    if tree[0] == "within":
        found += [("within", tree[1], inner) for inner in with_hole(tree[2])]
    return found


def filled(tree):
    """Returns a tree with a call to the service h in the place of its hole."""
    if tree == HOLE:
        return ("call", "h")
    return tuple(filled(part) if isinstance(part, tuple) else part for part in tree)
