"""Plans as nested tuples, in the words of the document: what the tests compare the program with.

("call", name), ("pause", n), ("fail",), ("hole",), ("then", a, b) and its kin, ("within", n, a),
("retry", k, n, a), with "?" for the n of a mark.
"""

PAIRS = ("then", "else", "both", "either")


def text_of(tree):
    """Returns the text of a tree, as point 5 shows it."""
    word = tree[0]
    if word in PAIRS:
        return f"({text_of(tree[1])} {word} {text_of(tree[2])})"
    if word == "within":
        return f"within {tree[1]} {text_of(tree[2])}"
    if word == "retry":
        return f"retry {tree[1]} {tree[2]} {text_of(tree[3])}"
    return " ".join(str(part) for part in tree)


def written_out(tree):
    """Returns a tree without retries, as point 6 tells to replace them."""
    word = tree[0]
    if word == "retry":
        _, tries, pause, inner = tree
        if tries == 1:
            return written_out(inner)
        rest = ("retry", tries - 1, pause, inner)
        return ("else", written_out(inner), ("then", ("pause", pause), written_out(rest)))
    if word in PAIRS:
        return (word, written_out(tree[1]), written_out(tree[2]))
    if word == "within":
        return (word, tree[1], written_out(tree[2]))
    return tree


def all_forms(tree):
    """Returns all forms of a tree, in the order of the text of their leaves."""
    inner = [part for part in tree[1:] if isinstance(part, tuple)]
    return [tree] + [form for part in inner for form in all_forms(part)]


def services(tree):
    """Returns the services of the calls of the written-out tree."""
    return [form[1] for form in all_forms(written_out(tree)) if form[0] == "call"]


def size(tree):
    """Returns the numbers of calls, withins and forms of the written-out tree."""
    words = [form[0] for form in all_forms(written_out(tree))]
    return (words.count("call"), words.count("within"), len(words))


def leaves():
    """Returns trees with no tree within them."""
    names = ("a", "abcdefgh", "z", "call", "then", "hole", "fail", "retry", "within", "pause", "either")
    return [("fail",), ("hole",), ("pause", 0), ("pause", 7), ("pause", 10**9)] + [("call", name) for name in names]


def trees_over(parts):
    """Returns trees of each form over the given ones."""
    pairs = [(word, first, second) for word in PAIRS for first in parts for second in parts]
    withins = [("within", limit, part) for limit in (0, 1, 10**9, "?") for part in parts]
    retries = [("retry", tries, pause, part) for tries in range(1, 9) for pause in (0, 10**9) for part in parts]
    return pairs + withins + retries


def some_trees():
    """Returns trees of each form within each form."""
    low = trees_over(leaves())
    inner = [("call", "db"), ("hole",)]
    middle = trees_over(inner)
    return leaves() + low + trees_over(middle[::5] + inner) + trees_over(trees_over(middle[::9])[::400])
