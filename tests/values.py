"""Values of many kinds, for parameters that accept any value."""


def nested_list(depth, inner):
    """Returns a value inside of that many lists."""
    for _ in range(depth):
        inner = [inner]
    return inner


def nested_tuple(depth, inner):
    """Returns a value inside of that many tuples."""
    for _ in range(depth):
        inner = (inner,)
    return inner


def any_values():
    """Returns new values of every kind, none of which is a list of ranges, a range or a reply."""
    return [
        None, True, False, 0, 1, -1, 10**40, 10**5000, "", "ok", "never", "()", "[]", (), ("ok",), ("never", 1),
        ("ok", "1"), ("ok", None), ("ok", True), ("ok", (1, 2)), (1, "ok"), (None, None), (True, True),
        (False, True), [None], [0], [[1, 2]], [True], ["ok", 1], ["never"], {}, {1: 2}, {"ok": 1},
        {(1, 2): None}, {"never": []}, nested_list(50, 0), nested_tuple(50, 0), nested_list(49, (1, 2)),
        nested_tuple(49, "ok"), {0: nested_list(49, {})},
    ]
