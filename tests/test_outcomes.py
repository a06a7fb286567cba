import itertools
import unittest

import reference
import trees
from callplans.contracts import Contract
from callplans.errors import HasHole, NoOutcome, TooLarge, UnknownService
from callplans.outcomes import Outcomes, outcomes, world_for
from callplans.plans import Plan
from callplans.times import Times
from callplans.worlds import is_allowed, outcome_in
from sizes import chain, one_too_large
from values import any_values, nested_list, nested_tuple

NEVER = ("never",)
LAST = 10**6
SMALL = {
    "a": Contract(ok=(1, 3), fail=(2, 3), hang=True), "b": Contract(ok=(2, 2), fail=(1, 1), hang=True),
    "c": Contract(ok=(3, 4), fail=(2, 2)),
}
OTHERS = [
    {"a": Contract(ok=(1, 4)), "b": Contract(fail=(2, 3)), "c": Contract(hang=True)},
    {"a": Contract(fail=(1, 1), hang=True), "b": Contract(ok=(5, 6), hang=True), "c": Contract(ok=(1, 1), fail=(4, 5))},
    {"a": Contract(ok=(5, 5), fail=(1, 3)), "b": Contract(ok=(1, 2), fail=(6, 6)), "c": Contract(fail=(3, 3))},
]
GREAT = {
    "a": Contract(ok=(1, LAST), fail=(500000, LAST), hang=True), "b": Contract(ok=(10, 20), fail=(1, 1)),
    "c": Contract(ok=(LAST, LAST), fail=(999, 1001)),
}


def parsed(text):
    """Returns the plan of a text."""
    return Plan.parse(text)


def told(found):
    """Returns all that an Outcomes tells."""
    return [found.ok.ranges, found.fail.ranges, found.never]


def made(ok, fail, never):
    """Returns the Outcomes with ranges of ok and of fail."""
    return Outcomes(Times(ok), Times(fail), never)


def some_sets():
    """Returns new Outcomes, of which no two are equal."""
    spans = [[], [(0, 0)], [(1, 2)], [(1, 3)], [(1, 1), (3, 3)], [(0, 10**9)]]
    return [made(ok, fail, never) for ok in spans for fail in spans for never in (False, True)]


def all_pairs():
    """Returns the trees of each word between parts that are leaves, withins, retries or pairs."""
    parts = [("call", "a"), ("call", "b"), ("pause", 0), ("pause", 2), ("fail",), ("within", 2, ("call", "a")),
             ("retry", 2, 1, ("call", "c")), ("then", ("call", "c"), ("fail",)), ("else", ("call", "b"), ("pause", 3))]
    return [(word, one, two) for word in trees.PAIRS for one in parts for two in parts]


class OutcomesTest(unittest.TestCase):
    def test_attributes_are_what_is_passed(self):
        ok, fail = Times([(1, 2)]), Times([(3, 4), (9, 9)])
        for never in (False, True):
            found = Outcomes(ok, fail, never)
            self.assertEqual(found.ok, ok)
            self.assertEqual(found.fail, fail)
            self.assertIs(found.never, never)
            self.assertEqual(told(Outcomes(ok=fail, fail=ok, never=never)), [fail.ranges, ok.ranges, never])

    def test_comparison(self):
        for (place, first), (at, second) in itertools.product(enumerate(some_sets()), enumerate(some_sets())):
            self.assertIs(first == second, place == at)
            self.assertIs(first != second, place != at)

    def test_equal_sets_from_other_ranges(self):
        first = made([(1, 5)], [(7, 7), (9, 9)], True)
        second = made([(4, 5), (1, 2), (2, 3)], [(9, 9), (7, 7), (7, 7)], True)
        self.assertIs(first == second, True)
        self.assertIs(first != second, False)

    def test_no_other_value_is_equal(self):
        for found in (made([], [], False), made([(1, 2)], [(1, 2)], True)):
            for value in [*any_values(), Times([]), Times([(1, 2)]), (found.ok, found.fail, found.never), vars(found),
                          Contract(ok=(1, 2), fail=(1, 2), hang=True), parsed("call a"), object(), told(found)]:
                self.assertIs(found == value, False)
                self.assertIs(found != value, True)
                self.assertIs(value == found, False)

    def test_in(self):
        found = made([(2, 3), (6, 6)], [(0, 0), (3, 4)], False)
        for time in range(-2, 12):
            self.assertIs(("ok", time) in found, time in (2, 3, 6))
            self.assertIs(("fail", time) in found, time in (0, 3, 4))
        self.assertIs(NEVER in found, False)
        self.assertIs(NEVER in made([], [], True), True)
        self.assertIs(("ok", 1) in made([], [], True), False)
        self.assertIs(("ok", 10**9) in made([(0, 10**9)], [], False), True)
        self.assertIs(("fail", 10**9) in made([(0, 10**9)], [], False), False)

    def test_values_that_are_no_outcomes_are_not_in(self):
        found = made([(0, 10**9)], [(0, 10**9)], True)
        wrong = [["ok", 1], ["never"], "never", "ok", ("ok",), ("fail",), ("ok", True), ("fail", False), ("ok", -1),
                 ("ok", 1, 1), ("ok", 10**9 + 1), ("never", 1), ("never", None), ("never", "never"), (NEVER,), ("Ok", 1),
                 (None, 1), (1, "ok"), (("ok",), 1), (["ok"], 1), (nested_list(45, "ok"), 1), ("ok", nested_tuple(45, 1)),
                 ("ok", [1]), ("ok", (1, 1)), Times([(1, 1)]), ("ok", Times([(1, 1)])), {"ok": 1}]
        for value in wrong + any_values():
            self.assertIs(value in found, False, value)

    def test_is_within(self):
        for first, second in itertools.product(some_sets(), repeat=2):
            inside = (first.ok.is_within(second.ok) and first.fail.is_within(second.fail)
                      and not (first.never and not second.never))
            self.assertIs(first.is_within(second), inside)
            self.assertIs(first.is_within(other=second), inside)

    def test_is_within_by_outcomes(self):
        few = [some for some in some_sets() if ("ok", 5) not in some and ("fail", 5) not in some]
        for first, second in itertools.product(few, repeat=2):
            self.assertIs(first.is_within(second), reference.as_set(first) <= reference.as_set(second))

    def test_worst(self):
        cases = [
            (made([], [], False), 0), (made([], [], True), None), (made([(0, 0)], [], False), 0),
            (made([(1, 3), (7, 8)], [], False), 8), (made([], [(1, 3), (7, 8)], False), 8),
            (made([(1, 9)], [(2, 4)], False), 9), (made([(1, 3)], [(2, 4)], False), 4), (made([], [(0, 0)], False), 0),
            (made([(1, 3)], [(2, 4)], True), None), (made([(5, 5)], [(5, 5)], False), 5),
            (made([(1, 10**9)], [], False), 10**9), (made([(1, 10**9)], [], True), None),
        ]
        for found, wanted in cases:
            self.assertEqual(found.worst(), wanted)
        self.assertIs(type(cases[0][0].worst()), int)


class OutcomesOfPlansTest(unittest.TestCase):
    def check(self, text, contracts, ok, fail, never):
        found = outcomes(parsed(text), contracts)
        self.assertEqual(told(found), [tuple(ok), tuple(fail), never], text)
        self.assertIs(type(found), Outcomes)
        self.assertIs(type(found.ok), Times)
        self.assertIs(type(found.fail), Times)
        self.assertIs(type(found.never), bool)

    def test_examples(self):
        contracts = {"db": Contract(ok=(2, 4), fail=(1, 1)), "web": Contract(ok=(3, 3), hang=True)}
        found = outcomes(parsed("(call db both call web)"), contracts)
        self.assertEqual(told(found) + [found.worst()], [((3, 4),), ((1, 1),), True, None])
        found = outcomes(plan=parsed("retry 2 5 call db"), contracts=contracts)
        self.assertEqual([found.ok.ranges, found.fail.ranges, found.worst()], [((2, 4), (8, 10)), ((7, 7),), 10])

    def test_leaves(self):
        self.check("call a", {"a": Contract(ok=(2, 5))}, [(2, 5)], [], False)
        self.check("call a", {"a": Contract(fail=(2, 5))}, [], [(2, 5)], False)
        self.check("call a", {"a": Contract(hang=True)}, [], [], True)
        self.check("call a", {"a": Contract(ok=(1, LAST), fail=(3, 3), hang=True)}, [(1, LAST)], [(3, 3)], True)
        self.check("pause 0", {}, [(0, 0)], [], False)
        self.check("pause 1000000000", {}, [(10**9, 10**9)], [], False)
        self.check("fail", {}, [], [(0, 0)], False)

    def test_each_pair(self):
        contracts = {"a": Contract(ok=(2, 5), fail=(3, 9)), "b": Contract(ok=(4, 10), fail=(1, 4), hang=True)}
        self.check("(call a then call b)", contracts, [(6, 15)], [(3, 9)], True)
        self.check("(call a else call b)", contracts, [(2, 5), (7, 19)], [(4, 13)], True)
        self.check("(call a both call b)", contracts, [(4, 10)], [(1, 9)], True)
        self.check("(call a either call b)", contracts, [(2, 10)], [(3, 9)], True)

    def test_ranges_with_gaps(self):
        contracts = {"s": Contract(ok=(1, 2), fail=(1, 1)), "t": Contract(ok=(10, 11)), "u": Contract(ok=(50, 50))}
        self.check("(call s else call t)", contracts, [(1, 2), (11, 12)], [], False)
        self.check("((call s else call t) then call u)", contracts, [(51, 52), (61, 62)], [], False)
        self.check("((call s else call t) then (call s else call u))", contracts,
                   [(2, 4), (12, 14), (52, 53), (62, 63)], [], False)
        self.check("within 52 ((call s else call t) then call u)", contracts, [(51, 52)], [(52, 52)], False)
        self.check("(retry 3 100 call s either pause 150)", contracts, [(1, 2), (102, 103), (150, 150)], [], False)
        self.check("(retry 3 100 call s both pause 102)", contracts, [(102, 103), (203, 204)], [(203, 203)], False)

    def test_retries(self):
        contracts = {"s": Contract(ok=(1, 1), fail=(2, 3))}
        self.check("retry 1 10 call s", contracts, [(1, 1)], [(2, 3)], False)
        self.check("retry 3 10 call s", contracts, [(1, 1), (13, 14), (25, 27)], [(26, 29)], False)
        self.check("retry 2 100 retry 2 10 call s", contracts, [(1, 1), (13, 14), (115, 117), (127, 130)],
                   [(128, 132)], False)

    def test_within(self):
        contracts = {"s": Contract(ok=(3, 7), fail=(4, 9)), "h": Contract(ok=(3, 3), hang=True), "o": Contract(ok=(3, 7))}
        self.check("within 2 call s", contracts, [], [(2, 2)], False)
        self.check("within 3 call s", contracts, [(3, 3)], [(3, 3)], False)
        self.check("within 8 call s", contracts, [(3, 7)], [(4, 8)], False)
        self.check("within 9 call s", contracts, [(3, 7)], [(4, 9)], False)
        self.check("within 10 call s", contracts, [(3, 7)], [(4, 9)], False)
        self.check("within 6 call o", contracts, [(3, 6)], [(6, 6)], False)
        self.check("within 7 call o", contracts, [(3, 7)], [], False)
        self.check("within 10 call h", contracts, [(3, 3)], [(10, 10)], False)
        self.check("within 0 call h", contracts, [], [(0, 0)], False)

    def test_against_all_worlds(self):
        for contracts in [SMALL, *OTHERS]:
            for tree in all_pairs() + reference.some_trees(3, 150, 3, [0, 1, 2, 3, 5]):
                found = outcomes(parsed(trees.text_of(tree)), contracts)
                self.assertEqual(reference.as_set(found), reference.outcomes(tree, contracts), tree)

    def test_against_all_worlds_of_more_calls(self):
        contracts = {"a": Contract(ok=(1, 2), hang=True), "b": Contract(ok=(4, 4), fail=(3, 3)), "c": Contract(fail=(1, 2))}
        for tree in reference.some_trees(4, 150, 6, [0, 1, 2, 4], depth=5):
            found = outcomes(parsed(trees.text_of(tree)), contracts)
            self.assertEqual(reference.as_set(found), reference.outcomes(tree, contracts), tree)

    def test_great_ranges(self):
        self.check(chain(["call a"] * 8), {"a": Contract(ok=(1, LAST))}, [(8, 8 * LAST)], [], False)
        self.check("retry 8 1000000000 call a", {"a": Contract(fail=(LAST, LAST))}, [], [(7 * 10**9 + 8 * LAST,) * 2], False)
        self.check("(call a both within 999999 call a)", {"a": Contract(ok=(2, LAST), hang=True)}, [(2, LAST)],
                   [(LAST - 1, LAST - 1)], True)
        self.check("(pause 1000000000 then (pause 1000000000 then call a))", {"a": Contract(ok=(1, 2))},
                   [(2 * 10**9 + 1, 2 * 10**9 + 2)], [], False)

    def test_great_ranges_hold_all_worlds_at_their_ends(self):
        ends = {name: [reply for word, span in (("ok", contract.ok), ("fail", contract.fail)) if span
                       for reply in {(word, time) for time in (span[0], span[0] + 1, sum(span) // 2, span[1] - 1, span[1])}
                       if contract.allows(reply)] + [NEVER] * contract.hang for name, contract in GREAT.items()}
        for tree in reference.some_trees(5, 150, 3, [0, 1, 20, 999, 500000, LAST, 10**9]):
            plan = parsed(trees.text_of(tree))
            found = outcomes(plan, GREAT)
            for world in itertools.product(*[ends[name] for name in plan.calls()]):
                self.assertIn(outcome_in(plan, list(world)), found, (tree, world))
            for outcome in ends_of(found):
                self.assertEqual(outcome_in(plan, world_for(plan, GREAT, outcome)), outcome)

    def test_the_dict_of_contracts(self):
        plan = parsed("(call a both retry 2 1 (call c else call b))")
        contracts = {**SMALL, "zz": Contract(ok=(1, 1)), "d": Contract(hang=True)}
        backwards = dict(reversed(contracts.items()))
        found = outcomes(plan, contracts)
        self.assertEqual(list(contracts), ["a", "b", "c", "zz", "d"])
        self.assertTrue(found == outcomes(plan, backwards) == outcomes(plan, SMALL) == outcomes(plan, contracts))
        contracts["a"] = Contract(ok=(9, 9))
        self.assertTrue(found == outcomes(plan, SMALL))
        self.assertEqual(str(plan), "(call a both retry 2 1 (call c else call b))")

    def test_errors(self):
        for text in one_too_large():
            with self.assertRaises(TooLarge):
                outcomes(parsed(text), {"a": Contract(hang=True)})
            with self.assertRaises(HasHole):
                outcomes(parsed(f"({text} then within ? call x)"), {})
        with self.assertRaises(UnknownService) as caught:
            outcomes(parsed("(call b then retry 8 0 retry 8 0 call x)"), SMALL)
        self.assertEqual(caught.exception.name, "x")


def ends_of(found):
    """Returns the outcomes at the ends of the ranges of an Outcomes, in the middle of them, and never, if it is one."""
    spans = [("ok", span) for span in found.ok.ranges] + [("fail", span) for span in found.fail.ranges]
    ended = [(word, time) for word, span in spans for time in (span[0], sum(span) // 2, span[1])]
    return ended + [NEVER] * found.never


class AlikeTest(unittest.TestCase):
    """Plans that are alike have equal outcomes."""

    def setUp(self):
        self.parts = ["call a", "call b", "(call c else call b)", "within 3 call a", "retry 2 1 call b", "pause 2", "fail"]

    def check_alike(self, one, two):
        for contracts in (SMALL, GREAT, OTHERS[0]):
            self.assertTrue(outcomes(parsed(one), contracts) == outcomes(parsed(two), contracts), (one, two))

    def test_other_brackets(self):
        for word in trees.PAIRS:
            for a, b, c in itertools.product(self.parts, repeat=3):
                self.check_alike(f"(({a} {word} {b}) {word} {c})", f"({a} {word} ({b} {word} {c}))")

    def test_exchanged_parts(self):
        for word in ("both", "either"):
            for a, b in itertools.product(self.parts, repeat=2):
                self.check_alike(f"({a} {word} {b})", f"({b} {word} {a})")

    def test_withins(self):
        for limit, more in itertools.product((0, 1, 2, 3, 4, 500000), repeat=2):
            for a in self.parts:
                self.check_alike(f"within {limit} within {more} {a}", f"within {min(limit, more)} {a}")
            for (a, b), word in itertools.product(itertools.product(self.parts[:5], repeat=2), ("both", "either")):
                if limit == more:
                    self.check_alike(f"within {limit} ({a} {word} {b})",
                                     f"(within {limit} {a} {word} within {limit} {b})")

    def test_retries_written_out(self):
        for a in self.parts:
            self.check_alike(f"retry 1 5 {a}", a)
            self.check_alike(f"retry 2 5 {a}", f"({a} else (pause 5 then {a}))")
            self.check_alike(f"retry 3 5 {a}", f"({a} else (pause 5 then retry 2 5 {a}))")
        for tree in reference.some_trees(6, 100, 6, [0, 1, 3]):
            self.check_alike(trees.text_of(tree), trees.text_of(trees.written_out(tree)))


class LessTest(unittest.TestCase):
    def test_contracts_that_allow_less_give_no_new_outcome_and_no_later_worst_time(self):
        less = {
            "a": [Contract(ok=(2, 3), hang=True), Contract(ok=(1, 3), fail=(3, 3)), Contract(hang=True), SMALL["a"]],
            "b": [Contract(ok=(2, 2), fail=(1, 1)), Contract(fail=(1, 1)), SMALL["b"]],
            "c": [Contract(ok=(4, 4)), Contract(fail=(2, 2)), SMALL["c"]],
        }
        for tree in all_pairs()[::3] + reference.some_trees(7, 100, 6, [0, 1, 2, 4], depth=4):
            plan = parsed(trees.text_of(tree))
            whole = outcomes(plan, SMALL)
            for a, b, c in itertools.product(less["a"], less["b"], less["c"]):
                part = outcomes(plan, {"a": a, "b": b, "c": c})
                self.assertTrue(part.is_within(whole))
                if whole.worst() is not None:
                    self.assertLessEqual(part.worst(), whole.worst())


class WorldForTest(unittest.TestCase):
    def check_world(self, text, contracts, outcome):
        plan = parsed(text)
        world = world_for(plan, contracts, outcome)
        self.assertIs(type(world), list)
        self.assertIs(is_allowed(plan, contracts, world), True, (text, outcome, world))
        self.assertEqual(outcome_in(plan, world), outcome, (text, outcome, world))

    def check_none(self, text, contracts, wanted):
        with self.assertRaises(NoOutcome) as caught:
            world_for(parsed(text), contracts, wanted)
        self.assertIs(caught.exception.wanted, wanted)

    def test_only_world(self):
        contracts = {"a": Contract(ok=(3, 3)), "b": Contract(fail=(2, 2))}
        plan = parsed("(call a both call b)")
        self.assertEqual(world_for(plan=plan, contracts=contracts, outcome=("fail", 2)), [("ok", 3), ("fail", 2)])
        self.assertEqual(world_for(parsed("(pause 3 then fail)"), contracts, ("fail", 3)), [])

    def test_exactly_the_outcomes(self):
        wanted = [(word, time) for word in ("ok", "fail") for time in range(18)] + [NEVER]
        for contracts in [SMALL, *OTHERS]:
            for tree in all_pairs() + reference.some_trees(8, 100, 3, [0, 1, 2, 3, 5]):
                possible = reference.outcomes(tree, contracts)
                for outcome in {*wanted, *possible}:
                    if outcome in possible:
                        self.check_world(trees.text_of(tree), contracts, outcome)
                    else:
                        self.check_none(trees.text_of(tree), contracts, outcome)

    def test_eight_calls(self):
        contracts = {"a": Contract(ok=(1, 3), fail=(10, 14), hang=True), "b": Contract(ok=(100, 100), fail=(5, 5)),
                     "c": Contract(fail=(1, LAST), hang=True)}
        for tree in reference.some_trees(9, 120, 8, [0, 1, 9, 100, 777], depth=5):
            plan = parsed(trees.text_of(tree))
            found = outcomes(plan, contracts)
            for outcome in ends_of(found)[:60]:
                self.check_world(str(plan), contracts, outcome)
            for word, times in (("ok", found.ok), ("fail", found.fail)):
                for low, high in times.ranges[:20]:
                    self.check_none(str(plan), contracts, (word, low - 1))
                    self.check_none(str(plan), contracts, (word, high + 1))

    def test_gaps(self):
        contracts = {"s": Contract(ok=(1, 2), fail=(1, 1)), "t": Contract(ok=(10, 11))}
        for time in range(16):
            if time in (1, 2, 11, 12):
                self.check_world("(call s else call t)", contracts, ("ok", time))
            else:
                self.check_none("(call s else call t)", contracts, ("ok", time))

    def test_great_ranges(self):
        contracts = {"a": Contract(ok=(1, LAST), fail=(3, LAST), hang=True)}
        text = chain(["call a"] * 8)
        for time in (8, 9, 12345, 4 * LAST, 8 * LAST - 1, 8 * LAST):
            self.check_world(text, contracts, ("ok", time))
        for time in (3, 4, 7 * LAST, 8 * LAST - 1, 8 * LAST):
            self.check_world(text, contracts, ("fail", time))
        self.check_world(text, contracts, NEVER)
        for wanted in (("ok", 7), ("ok", 8 * LAST + 1), ("fail", 2), ("fail", 8 * LAST + 1)):
            self.check_none(text, contracts, wanted)
        retries = "retry 8 1000000 call a"
        for outcome in (("ok", 15 * LAST), ("ok", 15 * LAST - 1), ("fail", 15 * LAST), ("fail", 7 * LAST + 24), NEVER):
            self.check_world(retries, contracts, outcome)
        self.check_none(retries, contracts, ("fail", 7 * LAST + 23))

    def test_what_does_not_matter_is_allowed_too(self):
        contracts = {"a": Contract(ok=(2, 2)), "b": Contract(fail=(7, 9)), "h": Contract(hang=True)}
        self.check_world("(call a else (call b then call h))", contracts, ("ok", 2))
        self.check_world("((fail then call b) either call a)", contracts, ("ok", 2))
        self.check_world("within 3 (call h both (call a then call h))", contracts, ("fail", 3))
        self.check_world("(call a then (call h either pause 5))", contracts, ("ok", 7))

    def test_values_that_are_no_outcomes(self):
        contracts = {"a": Contract(ok=(1, LAST), fail=(1, LAST), hang=True)}
        wrong = [["ok", 1], ("ok", True), ("ok", 1, 1), ("never", 1), ["never"], "never", ("ok", 0), ("ok", -1),
                 ("ok", Times([(1, 1)])), Times([(1, 1)]), made([(1, 1)], [], False), (nested_list(45, "ok"), 1)]
        for value in wrong + any_values():
            self.check_none("call a", contracts, value)
            self.check_none("within 3 (call a both pause 1)", contracts, value)
            self.check_none("fail", {}, value)

    def test_the_returned_world_is_new(self):
        plan = parsed("retry 2 1 (call a else call b)")
        for outcome in reference.as_set(outcomes(plan, SMALL)):
            first = world_for(plan, SMALL, outcome)
            second = world_for(plan, SMALL, outcome)
            self.assertIsNot(first, second)
            first.clear()
            self.assertEqual(outcome_in(plan, second), outcome)
            self.assertEqual(outcome_in(plan, world_for(plan, SMALL, outcome)), outcome)

    def test_the_errors_of_outcomes_come_first(self):
        for outcome in (None, ("ok", 3), "x"):
            with self.assertRaises(HasHole):
                world_for(parsed("(call x then hole)"), {}, outcome)
            with self.assertRaises(UnknownService):
                world_for(parsed("retry 8 0 retry 8 0 call x"), {}, outcome)
            with self.assertRaises(TooLarge):
                world_for(parsed("retry 8 0 retry 8 0 call a"), SMALL, outcome)


if __name__ == "__main__":
    unittest.main()
