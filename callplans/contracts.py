"""Contracts of services, and their replies."""

from callplans.errors import BadContract
from callplans.values import is_integer, is_range

FIRST_TIME = 1
LAST_TIME = 1000000


def is_reply(value):
    """Tells whether a value is a reply."""
    if not isinstance(value, tuple):
        return False
    if len(value) == 2:
        return value[0] in ("ok", "fail") and is_integer(value[1]) and value[1] >= FIRST_TIME
    return value == ("never",)


def is_contract_range(value):
    """Tells whether a value is what a contract says of ok or of fail: a range, or None."""
    return value is None or (is_range(value, FIRST_TIME) and value[1] <= LAST_TIME)


class Contract:
    """A contract of a service: when it may reply. It never changes."""

    def __init__(self, *, ok=None, fail=None, hang=False):
        if not is_contract_range(ok) or not is_contract_range(fail):
            raise BadContract("ok and fail are ranges of times of replies, or None")
        if not isinstance(hang, bool):
            raise BadContract("hang is True or False")
        if ok is None and fail is None and not hang:
            raise BadContract("a contract allows at least one reply")
        self.ok = ok
        self.fail = fail
        self.hang = hang

    def __eq__(self, other):
        return (isinstance(other, Contract) and self.ok == other.ok and self.fail == other.fail
                and self.hang == other.hang)

    def allows(self, reply):
        """Tells whether the contract allows a reply; values that are no replies are not allowed."""
        if not is_reply(reply):
            return False
        if reply == ("never",):
            return self.hang
        span = self.ok if reply[0] == "ok" else self.fail
        return span is not None and span[0] <= reply[1] <= span[1]
