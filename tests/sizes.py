"""Texts of plans at the limits of what is small, with calls to the service a alone."""


def chain(parts):
    """Returns the text of parts, one after the other: of one pair less than there are parts."""
    text = parts[-1]
    for part in parts[-2::-1]:
        text = f"({part} then {text})"
    return text


def just_small():
    """Returns texts with eight calls, eight withins or 120 forms, and with several of these."""
    return [
        # Eight calls.
        "retry 8 1 call a", "retry 4 0 retry 2 1 call a", chain(["call a"] * 8), "(call a then retry 7 0 call a)",
        "retry 8 0 (pause 0 then (pause 0 then (call a then pause 0)))",
        # Eight withins, also with eight calls, and with one form less than 120, which no such plan can have.
        "within 3 " * 8 + "call a", "retry 2 0 retry 4 0 within 2 fail", "retry 8 0 within 2 call a",
        "retry 1 3 " * 40 + "retry 8 0 within 3 call a", "within 9 " * 8 + chain(["pause 0"] * 48 + ["call a"] * 8),
        # 120 forms, also with eight calls.
        "within 3 " + chain(["pause 0"] * 59 + ["call a"]),
        "retry 3 0 within 5 " + chain(["pause 0"] * 18 + ["call a"]),
        "within 9 " * 7 + chain(["pause 0"] * 49 + ["call a"] * 8),
    ]


def one_too_large():
    """Returns texts with nine calls, nine withins or 121 forms, and with several of these."""
    return [
        # Nine calls.
        "(call a then retry 8 1 call a)", "retry 3 0 retry 3 1 call a", chain(["call a"] * 9),
        # Nine withins.
        "within 3 " * 9 + "call a", "within 3 retry 8 0 within 2 call a", "retry 3 0 retry 3 0 within 2 fail",
        "retry 1 3 " * 40 + "within 3 retry 8 0 within 3 call a",
        # 121 forms.
        chain(["pause 0"] * 61), "within 3 within 3 " + chain(["pause 0"] * 59 + ["call a"]),
        # Much more, and more of everything.
        "within 3 " * 9 + chain(["call a"] * 61), "retry 8 0 retry 8 0 call a", "retry 8 0 " * 50 + "pause 0",
        "retry 8 0 " * 50 + "within 3 call a",
    ]
