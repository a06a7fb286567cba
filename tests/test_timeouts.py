import unittest

import reference
import trees
from callplans.contracts import Contract
from callplans.errors import HasHole, NoMark, TooLarge, UnknownService
from callplans.outcomes import outcomes
from callplans.plans import Plan
from callplans.times import Times
from callplans.timeouts import good_numbers
from sizes import chain, just_small, one_too_large

LAST = 10**6
ALL = ((0, LAST),)
CONTRACTS = {"s": Contract(ok=(1, 4)), "t": Contract(ok=(3, 3)), "h": Contract(ok=(2, 2), hang=True),
             "f": Contract(fail=(2, 5)), "m": Contract(ok=(6, 7), fail=(2, 3))}
SMALL = {"a": Contract(ok=(1, 3), fail=(2, 4)), "b": Contract(ok=(2, 2), fail=(5, 5), hang=True), "c": Contract(fail=(1, 2))}


def parsed(text):
    """Returns the plan of a text."""
    return Plan.parse(text)


def marked(tree):
    """Returns the trees with a mark around one of the parts of a tree, which stands in no retry."""
    found = [("within", "?", tree)]
    if tree[0] in trees.PAIRS:
        found += [(tree[0], first, tree[2]) for first in marked(tree[1])]
        found += [(tree[0], tree[1], second) for second in marked(tree[2])]
    if tree[0] == "within":
        found += [("within", tree[1], inner) for inner in marked(tree[2])]
    return found


def with_number(text, number):
    """Returns the plan with a number in the place of its mark."""
    return parsed(text.replace("?", str(number)))


def is_good(text, contracts, deadline, number):
    """Tells whether a number is good, by the worst time of the plan with it."""
    worst = outcomes(with_number(text, number), contracts).worst()
    return worst is not None and worst <= deadline


class GoodNumbersTest(unittest.TestCase):
    def check(self, text, deadline, wanted, contracts=None):
        found = good_numbers(parsed(text), contracts or CONTRACTS, deadline)
        self.assertIs(type(found), Times)
        self.assertEqual(found.ranges, tuple(wanted), (text, deadline))

    def test_example(self):
        self.check("(within ? call s else call t)", 4, ((0, 1), (4, LAST)))
        plan = parsed("(within ? call s else call t)")
        self.assertEqual(good_numbers(plan=plan, contracts=CONTRACTS, deadline=4).ranges, ((0, 1), (4, LAST)))

    def test_the_mark_at_the_outside(self):
        for deadline in (0, 1, 3):
            self.check("within ? call s", deadline, [(0, deadline)])
            self.check("within ? call h", deadline, [(0, deadline)])
        for deadline in (4, 5, LAST, 10**9):
            self.check("within ? call s", deadline, ALL)
        for deadline in (4, 5, LAST - 1):
            self.check("within ? call h", deadline, [(0, deadline)])
        for deadline in (LAST, LAST + 1, 10**9):
            self.check("within ? call h", deadline, ALL)

    def test_deadline_of_zero(self):
        self.check("within ? call s", 0, [(0, 0)])
        self.check("within ? pause 0", 0, ALL)
        self.check("within ? fail", 0, ALL)
        self.check("within ? pause 1", 0, [(0, 0)])
        self.check("(within ? call s then pause 1)", 0, [(0, 0)])
        self.check("(pause 1 then within ? call s)", 0, [])
        self.check("(within ? call s else pause 1)", 0, [])

    def test_a_deadline_at_below_and_above_the_worst_time(self):
        # With every number up to 3, the first part may fail there; from 4 on, it ends ok.
        text = "(within ? call s else pause 10)"
        cases = {3: [], 4: [(4, LAST)], 5: [(4, LAST)], 9: [(4, LAST)], 10: [(0, 0), (4, LAST)], 11: [(0, 1), (4, LAST)],
                 12: [(0, 2), (4, LAST)], 13: ALL, 14: ALL, 10**9: ALL}
        for deadline, wanted in cases.items():
            self.check(text, deadline, wanted)

    def test_empty_and_full(self):
        self.check("(within ? call s then call t)", 6, [(0, 3)])
        self.check("(within ? call s both call h)", 10**9, [(0, 0)])
        self.check("(within ? pause 0 both call h)", 10**9, [])
        self.check("(call h then within ? call s)", 10**9, [])
        self.check("(within ? call s then call h)", 10**9, [(0, 0)])
        self.check("(within ? call s either pause 1000000000)", 10**9 - 1, [(4, LAST)])
        self.check("(within ? call s either pause 1000000000)", 10**9, ALL)
        self.check("(pause 10 then within ? call s)", 9, [])
        self.check("(fail then within ? call h)", 0, ALL)
        self.check("within 5 within ? call h", 4, [(0, 4)])
        self.check("within 5 within ? call h", 5, ALL)
        self.check("within ? within 5 call h", 4, [(0, 4)])
        self.check("within ? within 5 call h", 5, ALL)

    def test_marks_around_parts_with_never(self):
        self.check("(within ? call h else pause 5)", 10, [(0, 5)])
        self.check("(within ? call h else pause 5)", LAST + 4, [(0, LAST - 1)])
        self.check("(within ? call h else pause 5)", LAST + 5, ALL)
        self.check("(within ? call h either pause 5)", 5, [(0, LAST)])
        self.check("(within ? call h both pause 5)", 5, [(0, 5)])
        self.check("(within ? (call h both fail) both pause 5)", 0, ALL)

    def test_marks_around_parts_that_end_ok_and_fail(self):
        self.check("(within ? call m else pause 10)", 10, [(0, 0)])
        self.check("(within ? call m else pause 10)", 12, [(0, 2)])
        self.check("(within ? call m else pause 10)", 13, [(0, 3), (7, LAST)])
        self.check("(within ? call m else pause 10)", 15, [(0, 5), (7, LAST)])
        self.check("(within ? call m else pause 10)", 16, ALL)
        self.check("(within ? call m then pause 10)", 6, [(0, 5)])
        self.check("(within ? call m then pause 10)", 16, [(0, 6)])
        self.check("(within ? call m then pause 10)", 17, ALL)

    def test_good_numbers_that_are_no_neighbours(self):
        text = "(within ? call s else call t)"
        cases = {2: [], 3: [(0, 0)], 4: [(0, 1), (4, LAST)], 5: [(0, 2), (4, LAST)], 6: ALL}
        for deadline, wanted in cases.items():
            self.check(text, deadline, wanted)

    def test_sets_with_gaps(self):
        # A failure at N is made ok at N + 3, with 10 behind it, up to N = 5; later ones fail at 8 with nothing behind it.
        text = "(within 8 (within ? call h else pause 3) then pause 10)"
        cases = {7: [], 11: [], 12: [(6, LAST)], 13: [(0, 0), (6, LAST)], 15: [(0, 2), (6, LAST)], 17: [(0, 4), (6, LAST)],
                 18: ALL}
        for deadline, wanted in cases.items():
            self.check(text, deadline, wanted)
        # The same with 1 or 20 in the place of 3: the time 22 is too late, which N + 1 and N + 20 can be.
        contracts = {"h": Contract(ok=(2, 2), hang=True), "x": Contract(ok=(1, 1), hang=True)}
        text = "(within 22 (within ? call h else (call x either pause 20)) then pause 10)"
        self.check(text, 31, [(0, 1), (3, 20), (22, LAST)], contracts)
        self.check(text, 30, [(0, 0), (3, 19), (22, LAST)], contracts)
        self.check(text, 32, ALL, contracts)

    def test_gaps_in_the_replies(self):
        contracts = {"b": Contract(ok=(20, 20)), "d": Contract(ok=(6, 6), fail=(2, 2)), "e": Contract(ok=(1, 1), fail=(1, 1))}
        self.check("((within ? call b else pause 5) both within 9 pause 10)", 9, ALL, contracts)
        self.check("(within 4 (within ? call b both pause 2) else pause 8)", 11, [(0, 3)], contracts)
        self.check("(within 4 (within ? call d else pause 1) else pause 8)", 11, [(0, 3)], contracts)
        text = "((within ? call b both (call e else (pause 10 then call e))) else pause 3)"
        for deadline in range(0, 30):
            found = good_numbers(parsed(text), contracts, deadline)
            for number in [*range(40), LAST]:
                self.assertIs(number in found, is_good(text, contracts, deadline, number), (deadline, number))

    def test_marks_in_words_and_withins(self):
        self.check("(call t then within ? call s)", 5, [(0, 2)])
        self.check("(call t then within ? call s)", 7, ALL)
        self.check("(call f else within ? call s)", 8, [(0, 3)])
        self.check("(call t both within ? call s)", 3, [(0, 3)])
        self.check("(call t both within ? call s)", 4, ALL)
        self.check("(call t either within ? call s)", 3, ALL)
        self.check("(call t either within ? call s)", 2, [])
        self.check("within 6 (call t then within ? call s)", 5, [(0, 2)])
        self.check("(within 6 (call t then within ? call s) then pause 3)", 8, [(0, 2)])
        self.check("(within 6 (call t then within ? call s) then pause 3)", 9, ALL)
        self.check("((fail else (call t then within ? call s)) both (fail either pause 2))", 5, [(0, 2)])

    def test_retries_beside_and_inside_of_the_mark(self):
        self.check("(retry 2 1 call f then within ? call s)", 11, ALL)
        self.check("(retry 2 1 call f then within ? call s)", 10, [])
        self.check("(retry 2 1 call f else within ? call s)", 13, [(0, 2)])
        self.check("within ? retry 2 1 call f", 10, [(0, 10)])
        self.check("within ? retry 2 1 call f", 11, ALL)
        self.check("(within ? retry 2 1 call f then retry 1 0 call h)", 11, ALL)

    def test_numbers_at_the_ends(self):
        contracts = {"a": Contract(ok=(LAST, LAST)), "b": Contract(ok=(LAST - 1, LAST), fail=(LAST, LAST))}
        self.check("(within ? call a else fail)", LAST - 1, [(0, LAST - 1)], contracts)
        self.check("(within ? call a else pause 1000000)", LAST, [(0, 0), (LAST, LAST)], contracts)
        self.check("(within ? call a else pause 1000000)", LAST - 1, [], contracts)
        self.check("(within ? call a else pause 1000001)", LAST, [(LAST, LAST)], contracts)
        self.check("(within ? call a then pause 1)", LAST, [(0, LAST - 1)], contracts)
        self.check("(within ? call b then pause 1)", LAST - 1, [(0, LAST - 2)], contracts)
        self.check("(within ? call b then pause 1)", LAST, [(0, LAST - 1)], contracts)
        self.check("(within ? call b else pause 1)", LAST, [(0, LAST - 1)], contracts)
        self.check("(within ? (call a then call a) else pause 5)", 10**9, ALL, contracts)
        self.check("(within ? (call a then call a) else pause 5)", LAST + 4, [(0, LAST - 1)], contracts)

    def test_great_numbers_beside_the_mark(self):
        self.check("(pause 1000000000 then within ? call s)", 10**9, [(0, 0)])
        self.check("(pause 1000000000 then within ? call s)", 10**9 - 1, [])
        self.check("(pause 999999990 then within ? call h)", 10**9, [(0, 10)])
        self.check("(pause 999000000 then within ? call h)", 10**9, ALL)
        self.check("(within ? call h then pause 1000000000)", 10**9, [(0, 1)])
        self.check("((pause 1000000000 then within ? call s) either pause 7)", 7, ALL)
        self.check("within 1000000000 (pause 1000000000 then within ? call h)", 10**9, ALL)

    def test_deadlines_beyond_the_limit_are_no_error(self):
        self.check("(pause 1000000000 then within ? call h)", 10**9 + 7, [(0, 7)])

    def check_numbers(self, tree, contracts, deadlines, numbers):
        for with_mark in marked(tree):
            text = trees.text_of(with_mark)
            plan = parsed(text)
            if plan.size()[1] <= 8:
                worst = {number: outcomes(with_number(text, number), contracts).worst() for number in numbers}
                for deadline in deadlines:
                    found = good_numbers(plan, contracts, deadline)
                    good = [number for number in numbers if worst[number] is not None and worst[number] <= deadline]
                    self.assertEqual([number for number in numbers if number in found], good, (text, deadline))

    def test_against_the_plan_with_each_number(self):
        for tree in reference.some_trees(21, 80, 3, [0, 1, 2, 3, 5, 8]):
            self.check_numbers(tree, SMALL, range(0, 20), [*range(26), LAST])

    def test_against_the_plan_with_each_number_for_more_calls(self):
        for tree in reference.some_trees(22, 12, 7, [0, 1, 2, 4, 9], depth=5):
            self.check_numbers(tree, SMALL, range(0, 40, 3), [*range(40), LAST])

    def test_great_ranges_at_ends_and_beside_them(self):
        contracts = {"a": Contract(ok=(1, LAST), fail=(500000, LAST)), "b": Contract(ok=(10, 20), fail=(1, 1), hang=True),
                     "c": Contract(ok=(LAST, LAST), fail=(999, 1001))}
        deadlines = [0, 1, 1000, 500001, LAST - 1, LAST, LAST + 1, 2 * LAST, 3 * LAST, 10**9]
        for tree in reference.some_trees(23, 60, 4, [0, 1, 20, 999, 500000, LAST]):
            for with_mark in marked(tree)[:6]:
                text = trees.text_of(with_mark)
                for deadline in deadlines:
                    found = good_numbers(parsed(text), contracts, deadline)
                    beside = [end + step for span in found.ranges for end in span for step in (-1, 0, 1)]
                    for number in {0, 1, 19, 20, 499999, 500000, LAST - 1, LAST, *beside}:
                        if 0 <= number <= LAST:
                            good = is_good(text, contracts, deadline, number)
                            self.assertIs(number in found, good, (text, deadline, number))

    def test_great_plans(self):
        contracts = {"a": Contract(ok=(1, LAST), fail=(1, LAST), hang=True), "b": Contract(ok=(1, LAST), fail=(1, LAST))}
        eight = chain(["call b"] * 7 + ["within ? call a"])
        self.check(eight, 8 * LAST, ALL, contracts)
        self.check(eight, 8 * LAST - 1, [(0, LAST - 1)], contracts)
        self.check(eight, 7 * LAST, [(0, 0)], contracts)
        self.check(eight, 7 * LAST - 1, [], contracts)
        self.check("(within ? call a else retry 7 1000000 call b)", 14 * LAST, ALL, contracts)
        self.check("(within ? call a else retry 7 1000000 call b)", 13 * LAST + 5, [(0, 5)], contracts)
        self.check("within ? retry 2 5 retry 4 3 call a", 77, [(0, 77)], contracts)
        self.check("within ? retry 2 5 retry 4 3 call b", 8 * LAST + 22, [(0, LAST)], contracts)
        self.check("within 7 " * 4 + "within ? " + "within 9 " * 3 + "retry 8 0 call b", 6, [(0, 6)], contracts)

    def test_nothing_changes(self):
        plan = parsed("(within ? call s else call t)")
        backwards = dict(reversed(CONTRACTS.items()))
        found = [good_numbers(plan, some, 4).ranges for some in (CONTRACTS, backwards, CONTRACTS)]
        self.assertEqual(found, [((0, 1), (4, LAST))] * 3)
        self.assertEqual(str(plan), "(within ? call s else call t)")


class ErrorsTest(unittest.TestCase):
    def check_error(self, error, text, name=None):
        for deadline in (0, 5, 10**9):
            with self.assertRaises(error, msg=text) as caught:
                good_numbers(parsed(text), {"a": Contract(hang=True)}, deadline)
            self.assertEqual(getattr(caught.exception, "name", None), name)

    def test_no_mark(self):
        large = "retry 8 0 retry 8 0 call x"
        for text in ["fail", "call a", "within 3 call a", "within ? within ? call a", "(within ? fail then within ? fail)",
                     "retry 2 0 within ? call a", "retry 1 0 within ? call a", "within 3 retry 2 5 (call a else within ? fail)",
                     "retry 1 0 (hole then within ? call x)", "(call x then hole)", "hole", large, f"({large} then hole)",
                     f"within ? within ? {large}", f"(within ? hole else retry 2 0 within ? {large})",
                     "retry 2 0 retry 1 1 (fail else (fail else within ? fail))", "retry 8 0 retry 8 0 within ? hole"]:
            self.check_error(NoMark, text)

    def test_marks_beside_retries_are_marks(self):
        for text in ["(retry 2 0 call a then within ? call a)", "(within ? call a then retry 2 0 call a)",
                     "within ? retry 2 0 call a", "(retry 1 0 fail else (within ? fail both retry 3 3 fail))"]:
            self.assertIs(type(good_numbers(parsed(text), {"a": Contract(hang=True)}, 3)), Times)

    def test_holes_come_next(self):
        large = "retry 8 0 retry 8 0 call x"
        for text in ["within ? hole", "(within ? call x then hole)", f"(within ? hole then {large})",
                     "(retry 2 0 hole then within ? call a)", "within ? (hole then hole)"]:
            self.check_error(HasHole, text)

    def test_unknown_services_come_next(self):
        self.check_error(UnknownService, "within ? call x", "x")
        self.check_error(UnknownService, "(within ? call y then call x)", "y")
        self.check_error(UnknownService, "(call a then (retry 8 0 retry 8 0 call x then within ? call y))", "x")
        self.check_error(UnknownService, "(retry 8 0 retry 8 0 call a then within ? call y)", "y")

    def test_too_large(self):
        for text in one_too_large():
            self.check_error(TooLarge, f"({text} then within ? fail)")
            self.check_error(TooLarge, f"within ? {text}")
        self.check_error(TooLarge, "within ? " + "within 3 " * 8 + "call a")
        self.check_error(TooLarge, "within ? (call a then retry 8 0 call a)")
        self.check_error(TooLarge, "(retry 8 0 call a then within ? call a)")
        self.check_error(TooLarge, "within 2 within ? " + chain(["pause 0"] * 60))

    def test_just_small(self):
        contracts = {"a": Contract(ok=(1, 2), fail=(1, 2), hang=True)}
        for text in ["within ? " + "within 3 " * 7 + "call a", "within ? retry 8 0 call a", "within ? " + chain(["pause 0"] * 60),
                     "within ? retry 7 0 within 1 call a", "within 3 " * 6 + "within ? " + chain(["pause 0"] * 49 + ["call a"] * 8)]:
            for deadline in (0, 1, 3, 9):
                found = good_numbers(parsed(text), contracts, deadline)
                for number in [*range(12), LAST]:
                    self.assertIs(number in found, is_good(text, contracts, deadline, number), text)
        for text in just_small():
            if parsed(text).size()[1] < 8 and parsed(text).size()[2] < 120:
                self.assertIs(type(good_numbers(parsed(f"within ? {text}"), contracts, 9)), Times)


if __name__ == "__main__":
    unittest.main()
