import copy
import itertools
import unittest

import reference
import trees
from callplans.contracts import Contract
from callplans.errors import BadWorld, HasHole, TooLarge, UnknownService
from callplans.outcomes import outcomes, world_for
from callplans.plans import Plan
from callplans.times import Times
from callplans.worlds import is_allowed, outcome_in
from sizes import just_small, one_too_large
from values import any_values, nested_list, nested_tuple

NEVER = ("never",)
LAST = 10**6
ENDS = [(word, time) for word in ("ok", "fail") for time in (1, 2, 3)] + [NEVER]


def parsed(text):
    """Returns the plan of a text."""
    return Plan.parse(text)


class OutcomeInTest(unittest.TestCase):
    def check(self, text, world, wanted):
        found = outcome_in(parsed(text), world)
        self.assertEqual(found, wanted, (text, world))
        self.assertIs(type(found), tuple)

    def test_example(self):
        plan = parsed("within 5 (call db else call web)")
        self.assertEqual(outcome_in(plan, [("fail", 2), ("ok", 3)]), ("ok", 5))
        self.assertEqual(outcome_in(plan, [("ok", 9), NEVER]), ("fail", 5))
        self.assertEqual(outcome_in(plan=plan, world=[("ok", 9), NEVER]), ("fail", 5))

    def test_leaves(self):
        for end in ENDS + [("ok", LAST), ("fail", LAST), ("ok", 10**40)]:
            self.check("call a", [end], end)
        for number in (0, 1, 7, LAST, 10**9):
            self.check(f"pause {number}", [], ("ok", number))
        self.check("fail", [], ("fail", 0))

    def test_then(self):
        for first, second in itertools.product(ENDS, repeat=2):
            wanted = first
            if first[0] == "ok":
                wanted = NEVER if second == NEVER else (second[0], first[1] + second[1])
            self.check("(call a then call b)", [first, second], wanted)

    def test_else(self):
        for first, second in itertools.product(ENDS, repeat=2):
            wanted = first
            if first[0] == "fail":
                wanted = NEVER if second == NEVER else (second[0], first[1] + second[1])
            self.check("(call a else call b)", [first, second], wanted)

    def test_both(self):
        cases = [
            (("ok", 1), ("ok", 1), ("ok", 1)), (("ok", 1), ("ok", 3), ("ok", 3)), (("ok", 1), ("fail", 1), ("fail", 1)),
            (("ok", 1), ("fail", 3), ("fail", 3)), (("ok", 3), ("fail", 1), ("fail", 1)), (("ok", 1), NEVER, NEVER),
            (("fail", 2), ("fail", 2), ("fail", 2)), (("fail", 1), ("fail", 3), ("fail", 1)),
            (("fail", 3), NEVER, ("fail", 3)), (NEVER, NEVER, NEVER),
        ]
        for first, second, wanted in cases:
            self.check("(call a both call b)", [first, second], wanted)
            self.check("(call a both call b)", [second, first], wanted)

    def test_either(self):
        cases = [
            (("ok", 1), ("ok", 1), ("ok", 1)), (("ok", 1), ("ok", 3), ("ok", 1)), (("ok", 1), ("fail", 1), ("ok", 1)),
            (("ok", 1), ("fail", 3), ("ok", 1)), (("ok", 3), ("fail", 1), ("ok", 3)), (("ok", 3), NEVER, ("ok", 3)),
            (("fail", 2), ("fail", 2), ("fail", 2)), (("fail", 1), ("fail", 3), ("fail", 3)),
            (("fail", 1), NEVER, NEVER), (NEVER, NEVER, NEVER),
        ]
        for first, second, wanted in cases:
            self.check("(call a either call b)", [first, second], wanted)
            self.check("(call a either call b)", [second, first], wanted)

    def test_each_word_with_each_pair(self):
        for word in trees.PAIRS:
            tree = (word, ("call", "a"), ("call", "b"))
            for world in itertools.product(ENDS, repeat=2):
                self.check(trees.text_of(tree), list(world), reference.outcome(tree, world))

    def test_pairs_of_parts_that_end_at_once(self):
        self.check("(pause 0 then fail)", [], ("fail", 0))
        self.check("(pause 0 then pause 0)", [], ("ok", 0))
        self.check("(fail else fail)", [], ("fail", 0))
        self.check("(fail else pause 0)", [], ("ok", 0))
        self.check("(pause 0 both fail)", [], ("fail", 0))
        self.check("(fail both pause 0)", [], ("fail", 0))
        self.check("(pause 0 either fail)", [], ("ok", 0))
        self.check("(fail either pause 0)", [], ("ok", 0))
        self.check("(fail either fail)", [], ("fail", 0))
        self.check("(fail both call a)", [NEVER], ("fail", 0))
        self.check("(call a either pause 0)", [NEVER], ("ok", 0))

    def test_within(self):
        for word in ("ok", "fail"):
            self.check("within 5 call a", [(word, 4)], (word, 4))
            self.check("within 5 call a", [(word, 5)], (word, 5))
            self.check("within 5 call a", [(word, 6)], ("fail", 5))
            self.check("within 0 call a", [(word, 1)], ("fail", 0))
            self.check("within 1000000000 call a", [(word, LAST)], (word, LAST))
        for limit in (0, 1, 5, LAST, 10**9):
            self.check(f"within {limit} call a", [NEVER], ("fail", limit))
        self.check("within 0 pause 0", [], ("ok", 0))
        self.check("within 0 fail", [], ("fail", 0))
        self.check("within 0 pause 1", [], ("fail", 0))

    def test_withins_within_withins(self):
        self.check("within 3 within 5 call a", [("ok", 4)], ("fail", 3))
        self.check("within 5 within 3 call a", [("ok", 4)], ("fail", 3))
        self.check("within 5 within 5 call a", [("ok", 5)], ("ok", 5))
        self.check("within 5 (within 3 call a else call b)", [NEVER, ("ok", 2)], ("ok", 5))
        self.check("within 5 (within 3 call a else call b)", [NEVER, ("ok", 3)], ("fail", 5))

    def test_retry(self):
        plan = "retry 3 5 call a"
        self.check(plan, [("ok", 2), NEVER, NEVER], ("ok", 2))
        self.check(plan, [("fail", 2), ("ok", 1), NEVER], ("ok", 8))
        self.check(plan, [("fail", 2), ("fail", 4), ("ok", 3)], ("ok", 19))
        self.check(plan, [("fail", 2), ("fail", 4), ("fail", 3)], ("fail", 19))
        self.check(plan, [("fail", 2), NEVER, ("ok", 1)], NEVER)
        self.check(plan, [NEVER, ("ok", 1), ("ok", 1)], NEVER)
        self.check(plan, [("fail", 2), ("fail", 4), NEVER], NEVER)
        self.check("retry 1 5 call a", [("fail", 2)], ("fail", 2))
        self.check("retry 8 2 fail", [], ("fail", 14))
        self.check("retry 8 2 pause 3", [], ("ok", 3))
        self.check("retry 2 1 (call a then call b)", [("ok", 1), ("fail", 2), ("ok", 3), ("ok", 4)], ("ok", 11))
        self.check("retry 2 1 (call a then call b)", [("fail", 1), ("ok", 9), ("ok", 3), ("fail", 4)], ("fail", 9))

    def test_retries_within_retries(self):
        world = [("fail", 1), ("fail", 2), ("fail", 3), ("ok", 4)]
        self.check("retry 2 100 retry 2 10 call a", world, ("ok", 130))
        self.check("retry 2 10 retry 2 100 call a", world, ("ok", 220))
        self.check("retry 2 100 retry 1 10 retry 2 10 call a", world, ("ok", 130))

    def test_the_calls_stand_in_the_order_of_the_text(self):
        text = "((call a then call b) then ((call c then call d) then call e))"
        world = [("ok", 1), ("ok", 10), ("ok", 100), ("ok", 1000), ("fail", 10000)]
        self.check(text, world, ("fail", 11111))
        self.check(text, world[:2] + [("fail", 5)] + world[3:], ("fail", 16))

    def test_eight_calls(self):
        world = [("fail", 10**number) for number in range(7)]
        self.check("retry 8 0 call a", world + [("ok", 5)], ("ok", 1111116))
        self.check("(call a then retry 7 1 call b)", [("ok", LAST)] * 2 + [NEVER] * 6, ("ok", 2 * LAST))
        self.check("retry 8 1000000 call a", [("fail", LAST)] * 8, ("fail", 15 * LAST))

    def test_all_worlds_of_some_trees(self):
        contracts = {"a": Contract(ok=(1, 3), fail=(2, 3), hang=True), "b": Contract(ok=(2, 2), fail=(1, 1), hang=True),
                     "c": Contract(ok=(3, 4), fail=(2, 2))}
        for tree in reference.some_trees(1, 250, 3, [0, 1, 2, 3, 5]):
            plan = parsed(trees.text_of(tree))
            for world in reference.worlds(tree, contracts):
                self.assertEqual(outcome_in(plan, list(world)), reference.outcome(tree, world), (tree, world))

    def test_great_trees(self):
        replies = [("ok", 1), ("fail", 1), ("ok", LAST), ("fail", LAST), ("ok", 77777), ("fail", 77777), NEVER]
        for tree in reference.some_trees(2, 150, 8, [0, 1, 77777, LAST - 1, LAST, 10**9], depth=5):
            plan = parsed(trees.text_of(tree))
            for number in range(30):
                world = [replies[(number * (at + 2) + at) % 7] for at in range(len(plan.calls()))]
                self.assertEqual(outcome_in(plan, world), reference.outcome(tree, world), (tree, world))

    def test_the_world_stays_as_it_was(self):
        plan = parsed("retry 2 1 (call a both within 3 call b)")
        world = [("ok", 1), ("fail", 2), NEVER, ("ok", 9)]
        before = copy.deepcopy(world)
        found = [outcome_in(plan, world) for _ in range(3)]
        self.assertEqual(found, [("fail", 6)] * 3)
        self.assertEqual(world, before)
        self.assertEqual(str(plan), "retry 2 1 (call a both within 3 call b)")


class BadWorldTest(unittest.TestCase):
    def check_bad(self, text, world, number):
        with self.assertRaises(BadWorld, msg=(text, world)) as caught:
            outcome_in(parsed(text), world)
        self.assertEqual(caught.exception.number, number)

    def test_too_short(self):
        self.check_bad("call a", [], 0)
        self.check_bad("(call a then call b)", [], 0)
        self.check_bad("(call a then call b)", [("fail", 1)], 1)
        self.check_bad("retry 8 0 call a", [("ok", 1)] * 7, 7)
        self.check_bad("within 0 (fail then call a)", [], 0)

    def test_too_long(self):
        self.check_bad("fail", [NEVER], 0)
        self.check_bad("fail", [None], 0)
        self.check_bad("call a", [("ok", 1), ("ok", 2)], 1)
        self.check_bad("call a", [("ok", 1), None, None], 1)
        self.check_bad("retry 8 0 call a", [("ok", 1)] * 9, 8)
        self.check_bad("retry 8 0 call a", [("ok", 1)] * 20, 8)

    def test_things_that_are_no_replies(self):
        wrong = [("ok", 0), ("fail", 0), ("ok", -1), ("ok", True), ("fail", False), ("ok", 1, 2), ["ok", 1], ["never"],
                 ("never", 1), ("never", None), "never", ("hang",), ("OK", 1), (nested_list(40, "ok"), 1),
                 ("ok", nested_tuple(40, 1)), Times([(1, 1)]), ("ok", Times([(1, 1)]))]
        for value in wrong + any_values():
            self.check_bad("call a", [value], 0)
            self.check_bad("(call a then call b)", [value, ("ok", 1)], 0)
            self.check_bad("(call a then call b)", [("fail", 1), value], 1)
            self.check_bad("retry 3 0 call a", [("ok", 1), value, ("ok", 1)], 1)

    def test_several_of_them(self):
        self.check_bad("retry 4 0 call a", [("ok", 1), None, ("ok", 1), None], 1)
        self.check_bad("retry 4 0 call a", [("ok", 1), ("ok", 0)], 1)
        self.check_bad("retry 4 0 call a", [NEVER, NEVER, 3], 2)
        self.check_bad("retry 2 0 call a", [("ok", 1), None, ("ok", 1)], 1)
        self.check_bad("retry 2 0 call a", [None, None, None], 0)

    def test_worlds_that_are_no_list(self):
        values = [value for value in any_values() if not isinstance(value, list)]
        for value in [*values, (("ok", 1),), (("ok", 1), ("ok", 1)), {0: ("ok", 1)}, ("ok", 1), NEVER, "[]"]:
            for text in ("fail", "call a", "(call a then call b)", "retry 8 0 call a"):
                self.check_bad(text, value, 0)


class IsAllowedTest(unittest.TestCase):
    def check(self, wanted, text, contracts, world):
        self.assertIs(is_allowed(parsed(text), contracts, world), wanted, (text, world))

    def test_ends_of_ranges(self):
        contracts = {"a": Contract(ok=(3, 5), fail=(7, LAST))}
        for time in range(1, 10):
            self.check(3 <= time <= 5, "call a", contracts, [("ok", time)])
            self.check(time >= 7, "call a", contracts, [("fail", time)])
        for time in (LAST - 1, LAST, LAST + 1):
            self.check(time <= LAST, "call a", contracts, [("fail", time)])
            self.check(False, "call a", contracts, [("ok", time)])

    def test_never(self):
        self.check(False, "call a", {"a": Contract(ok=(3, 5), fail=(7, 7))}, [NEVER])
        self.check(True, "call a", {"a": Contract(ok=(3, 5), hang=True)}, [NEVER])
        self.check(True, "call a", {"a": Contract(hang=True)}, [NEVER])
        self.check(False, "call a", {"a": Contract(hang=True)}, [("ok", 3)])

    def test_each_call_has_its_contract(self):
        contracts = {"b": Contract(fail=(2, 2)), "zz": Contract(hang=True), "a": Contract(ok=(1, 1))}
        for some in (contracts, dict(reversed(contracts.items()))):
            self.check(True, "(call a then call b)", some, [("ok", 1), ("fail", 2)])
            self.check(False, "(call b then call a)", some, [("ok", 1), ("fail", 2)])
            self.check(True, "retry 2 0 (call a both call b)", some, [("ok", 1), ("fail", 2)] * 2)
            self.check(False, "retry 2 0 (call a both call b)", some, [("ok", 1), ("fail", 2), ("fail", 2), ("ok", 1)])
        self.assertEqual(list(contracts), ["b", "zz", "a"])

    def test_calls_that_never_start_are_bound_too(self):
        contracts = {"a": Contract(ok=(1, 2))}
        self.check(True, "(fail then call a)", contracts, [("ok", 2)])
        self.check(False, "(fail then call a)", contracts, [("ok", 3)])

    def test_by_name(self):
        contracts = {"a": Contract(ok=(1, 2))}
        self.assertIs(is_allowed(plan=parsed("call a"), contracts=contracts, world=[("ok", 2)]), True)

    def test_no_worlds(self):
        contracts = {"a": Contract(ok=(1, LAST), fail=(1, LAST), hang=True)}
        for text in ("fail", "call a", "(call a then call a)", "retry 8 0 call a"):
            calls = len(parsed(text).calls())
            for many in range(10):
                self.check(many == calls, text, contracts, [("ok", 1)] * many)
            self.check(False, text, contracts, tuple([("ok", 1)] * calls))
            for value in any_values():
                if value != []:
                    self.check(False, text, contracts, value)
                if calls:
                    self.check(False, text, contracts, [("ok", 1)] * (calls - 1) + [value])
                    self.check(False, text, contracts, [value] + [("ok", 1)] * (calls - 1))

    def test_all_worlds_of_a_plan(self):
        contracts = {"a": Contract(ok=(2, 3), hang=True), "b": Contract(fail=(1, 2))}
        tree = ("retry", 2, 5, ("both", ("call", "b"), ("call", "a")))
        allowed = set(reference.worlds(tree, contracts))
        self.assertEqual(len(allowed), 36)
        for world in itertools.product([("ok", 1), *ENDS[1:], ("ok", 4)], repeat=4):
            self.check(world in allowed, trees.text_of(tree), contracts, list(world))

    def test_the_world_stays_as_it_was(self):
        world = [("ok", 1), NEVER]
        contracts = {"a": Contract(ok=(1, 1), hang=True)}
        before = dict(contracts)
        self.assertEqual([is_allowed(parsed("(call a then call a)"), contracts, world) for _ in range(2)], [True, True])
        self.assertEqual([world, contracts], [[("ok", 1), NEVER], before])


class ChecksTest(unittest.TestCase):
    """The order of the errors of plans, for all functions that check a plan under contracts or without them."""

    def under_contracts(self):
        """Returns the functions of a plan and contracts that make these checks."""
        return [lambda plan, contracts: is_allowed(plan, contracts, None), outcomes,
                lambda plan, contracts: world_for(plan, contracts, None)]

    def test_holes_and_marks_come_first(self):
        large = "retry 8 0 retry 8 0 call zz"
        for text in ["hole", "within ? fail", "within ? hole", "(hole then call zz)", "(call zz then hole)",
                     f"(hole then {large})", f"({large} both within ? call zz)", f"within ? {large}",
                     "retry 8 0 retry 8 0 hole", "(hole then hole)", "within 3 within ? call a"]:
            for function in self.under_contracts():
                with self.assertRaises(HasHole, msg=text):
                    function(parsed(text), {})
            with self.assertRaises(HasHole, msg=text):
                outcome_in(parsed(text), None)

    def test_the_first_unknown_service(self):
        known = {"a": Contract(hang=True), "b": Contract(hang=True)}
        cases = {
            "call x": "x", "(call y then call x)": "y", "(call a then call x)": "x", "((call b else call a) both call y)": "y",
            "retry 2 0 (call a then (call z both call x))": "z", "(fail then call hole)": "hole", "retry 1 0 call x": "x",
            "retry 8 0 retry 8 0 (call a else (call y either call x))": "y", "within 3 " * 9 + "call x": "x",
            "(" + "retry 8 0 " * 45 + "call a then call x)": "x", "(retry 8 0 retry 8 0 pause 3 then call x)": "x",
        }
        for text, name in cases.items():
            for function in self.under_contracts():
                for contracts in (known, dict(reversed(known.items()))):
                    with self.assertRaises(UnknownService, msg=text) as caught:
                        function(parsed(text), contracts)
                    self.assertEqual(caught.exception.name, name)

    def test_too_large(self):
        contracts = {"a": Contract(hang=True)}
        for text in one_too_large():
            for function in self.under_contracts():
                with self.assertRaises(TooLarge, msg=text):
                    function(parsed(text), contracts)
            for world in (None, [], [NEVER] * 9):
                with self.assertRaises(TooLarge, msg=text):
                    outcome_in(parsed(text), world)

    def test_just_small(self):
        contracts = {"a": Contract(ok=(1, 2), fail=(1, 2), hang=True)}
        for text in just_small():
            plan = parsed(text)
            found = outcomes(plan, contracts)
            for world in ([("ok", 2)] * plan.size()[0], [("fail", 1)] * plan.size()[0], [NEVER] * plan.size()[0]):
                self.assertIn(outcome_in(plan, world), found)
                self.assertIs(is_allowed(plan, contracts, world), True)
            for outcome in reference.as_set(found):
                world = world_for(plan, contracts, outcome)
                self.assertEqual(outcome_in(plan, world), outcome)
            with self.assertRaises(BadWorld) as caught:
                outcome_in(plan, [NEVER] * 20)
            self.assertEqual(caught.exception.number, plan.size()[0])

    def test_a_check_changes_nothing(self):
        contracts = {"a": Contract(hang=True)}
        plan = parsed("(call a then call x)")
        for function in self.under_contracts():
            with self.assertRaises(UnknownService):
                function(plan, contracts)
        self.assertEqual([str(plan), list(contracts)], ["(call a then call x)", ["a"]])


if __name__ == "__main__":
    unittest.main()
