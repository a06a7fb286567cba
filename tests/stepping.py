"""Runs that go through every time one by one: what the tests compare runs with.

At each time first come the replies, then what follows from them, then the timeouts, inner ones first. Trees are those
of trees.py.
"""

import trees

GOES_ON = {"then": "ok", "else": "fail"}


class Part:
    """A part of a plan: when it begins, ends and is cut, as far as this has happened."""

    def __init__(self, tree):
        self.word = tree[0]
        self.number = tree[1] if self.word in ("pause", "within") else None
        self.parts = [Part(inner) for inner in tree[1:] if isinstance(inner, tuple)]
        self.begin = self.end = self.cut = self.result = None

    def all_parts(self):
        """Returns the part and all parts within it, inner ones first."""
        return [part for inner in self.parts for part in inner.all_parts()] + [self]

    def goes(self):
        """Tells whether the part has begun and neither ended nor been cut."""
        return self.begin is not None and self.end is None and self.cut is None

    def finish(self, result, time):
        """Ends the part, and cuts what goes on within it."""
        self.result, self.end = result, time
        for part in self.all_parts():
            if part.end is None and part.cut is None:
                part.cut = time

    def begin_inner(self, place, time):
        """Begins one of the inner parts, if it has not begun; tells whether something has happened."""
        if self.parts[place].begin is not None:
            return False
        self.parts[place].begin = time
        return True

    def follow(self, time):
        """Does one thing that follows at a time; tells whether something has happened."""
        if self.word == "call" or not self.goes():
            return False
        if self.word == "pause":
            return self.follow_result("ok" if self.begin + self.number == time else None, time)
        if self.word == "fail":
            return self.follow_result("fail", time)
        if self.word in GOES_ON:
            return self.follow_in_turn(time)
        begun = [self.begin_inner(place, time) for place in range(len(self.parts))]
        return any(begun) or self.follow_result(self.result_at_once(), time)

    def follow_result(self, result, time):
        """Ends the part if there is a result."""
        if result is None:
            return False
        self.finish(result, time)
        return True

    def follow_in_turn(self, time):
        """Does one thing in a then or an else."""
        first, second = self.parts
        if self.begin_inner(0, time):
            return True
        if first.result == GOES_ON[self.word]:
            return self.begin_inner(1, time) or self.follow_result(second.result, time)
        return self.follow_result(first.result, time)

    def result_at_once(self):
        """Returns the result of a both, an either or a within by its inner parts, or None."""
        results = [part.result for part in self.parts]
        if self.word == "within":
            return results[0]
        deciding, other = ("fail", "ok") if self.word == "both" else ("ok", "fail")
        if deciding in results:
            return deciding
        return other if results == [other, other] else None


class Stepper:
    """A run that goes through every time one by one."""

    def __init__(self, tree):
        self.root = Part(trees.written_out(tree))
        self.root.begin = 0
        self.calls = [part for part in self.root.all_parts() if part.word == "call"]
        self.time = 0
        self.settle()

    def settle(self):
        """Does all that follows at the last time."""
        going = True
        while going:
            going = any(part.follow(self.time) for part in self.root.all_parts()) or self.time_out()

    def time_out(self):
        """Ends the innermost part whose time is over; tells whether there was one."""
        for part in self.root.all_parts():
            if part.word == "within" and part.goes() and part.begin + part.number == self.time:
                part.finish("fail", self.time)
                return True
        return False

    def close(self, time, replies):
        """Goes on to a time, with replies at this time."""
        while self.time < time:
            self.time += 1
            if self.time == time:
                for number, word in replies:
                    self.calls[number].result, self.calls[number].end = word, time
            self.settle()

    def outcome(self):
        """Returns the outcome, or None."""
        return None if self.root.end is None else (self.root.result, self.root.end)

    def record(self):
        """Returns what record of a run tells."""
        return [self.item(part) for part in self.calls]

    def item(self, part):
        """Returns the item of a call."""
        if part.begin is None or part.cut == part.begin:
            return None
        if part.end is not None:
            return (part.begin, part.result, part.end)
        return (part.begin,) if part.cut is None else (part.begin, "cancelled", part.cut)

    def waiting(self):
        """Returns what waiting of a run tells."""
        return [(number, item[0]) for number, item in enumerate(self.record()) if item is not None and len(item) == 1]


def agrees(reply, item, time):
    """Tells whether the reply of a call in a world agrees with its item of a record when a time is closed."""
    if item is None:
        return True
    if len(item) == 3 and item[1] != "cancelled":
        return reply == (item[1], item[2] - item[0])
    last = time if len(item) == 1 else item[2]
    return reply == ("never",) or item[0] + reply[1] > last
