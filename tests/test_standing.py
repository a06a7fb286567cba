import itertools
import unittest

import reference
import trees
from callplans.contracts import Contract
from callplans.errors import HasHole, NoHole, TooLarge, UnknownService
from callplans.outcomes import outcomes
from callplans.plans import Plan, plug
from callplans.standing import is_later, surrounding_for
from sizes import chain, just_small, one_too_large

LAST = 10**6
CONTRACTS = {
    "a": Contract(ok=(1, 3), fail=(2, 4)), "b": Contract(ok=(2, 2), fail=(1, 1), hang=True), "c": Contract(ok=(3, 5)),
    "f": Contract(fail=(2, 6)), "h": Contract(hang=True), "s": Contract(ok=(1, 1)), "t": Contract(ok=(1, 20)),
}
PLANS = [
    "call a", "call b", "call c", "call f", "call h", "fail", "pause 0", "pause 3", "within 2 call a", "within 3 call b",
    "(call a else call c)", "(call a both call b)", "(call b either call a)", "retry 2 1 call f", "retry 2 0 call a",
    "(call f else pause 3)", "within 5 (call c then call c)", "(call c then fail)", "within 0 call h", "(fail then call a)",
]
AROUND = [
    "hole", "(hole then call c)", "(call c then hole)", "(hole else call c)", "(call f else hole)", "(hole both call a)",
    "(call b either hole)", "within 3 hole", "within 0 hole", "retry 2 1 hole", "retry 2 3 (hole both call s)",
    "within 4 (hole else pause 1)", "(within 2 hole then call t)", "retry 2 0 within 3 (call a both hole)",
]


def parsed(text):
    """Returns the plan of a text."""
    return Plan.parse(text)


def surrounding_text(first, second):
    """Returns the text of the plan of point 10 for two sets of outcomes, or None."""
    def order(outcome):
        return (["never", "ok", "fail"].index(outcome[0]), outcome[1:])
    new = sorted(first - second, key=order)
    if not new:
        return None
    if new[0] == ("never",):
        return "hole"
    word, time = new[0]
    if word == "ok":
        return f"(within {time} hole then pause 1)"
    greater = max([time] + [outcome[1] + 1 for outcome in second if outcome[0] == "ok"])
    return f"(within {greater} (hole else pause {greater - time}) then pause 1)"


class SurroundingForTest(unittest.TestCase):
    def check(self, first, second, wanted, contracts=None):
        contracts = contracts or CONTRACTS
        found = surrounding_for(parsed(first), parsed(second), contracts)
        if wanted is None:
            self.assertIsNone(found, (first, second))
        else:
            self.assertIs(type(found), Plan)
            self.assertEqual(str(found), wanted, (first, second))
            self.assertTrue(found == parsed(wanted))
            self.assertIs(is_later(found, parsed(first), parsed(second), contracts), True)

    def test_example(self):
        contracts = {"db": Contract(ok=(2, 4), fail=(1, 1)), "web": Contract(ok=(3, 3), hang=True)}
        self.check("within 3 call web", "call web", "(within 4 (hole else pause 1) then pause 1)", contracts)
        found = surrounding_for(first=parsed("call web"), second=parsed("call web"), contracts=contracts)
        self.assertIsNone(found)

    def test_never(self):
        self.check("call h", "call a", "hole")
        self.check("call b", "(call a either call c)", "hole")
        self.check("call b", "(call h else fail)", "(within 2 hole then pause 1)")

    def test_ok(self):
        self.check("call a", "call c", "(within 1 hole then pause 1)")
        self.check("pause 0", "fail", "(within 0 hole then pause 1)")
        self.check("call t", "pause 1", "(within 2 hole then pause 1)")
        self.check("call t", "(call t either pause 7)", "(within 8 hole then pause 1)")
        self.check("call c", "call a", "(within 4 hole then pause 1)")

    def test_fail_where_the_second_plan_has_no_ok(self):
        self.check("call f", "call h", "(within 2 (hole else pause 0) then pause 1)")
        self.check("call f", "(call f both call f)", None)
        self.check("(call c then fail)", "call f", None)
        self.check("call f", "(call c then fail)", "(within 2 (hole else pause 0) then pause 1)")
        self.check("fail", "call f", "(within 0 (hole else pause 0) then pause 1)")

    def test_fail_where_the_second_plan_has_an_ok(self):
        # Behind the greatest ok, at it, one below, and far below.
        self.check("(pause 4 then fail)", "pause 3", "(within 4 (hole else pause 0) then pause 1)")
        self.check("(pause 3 then fail)", "pause 3", "(within 4 (hole else pause 1) then pause 1)")
        self.check("(pause 5 then fail)", "pause 3", "(within 5 (hole else pause 0) then pause 1)")
        self.check("fail", "pause 3", "(within 4 (hole else pause 4) then pause 1)")
        self.check("fail", "pause 0", "(within 1 (hole else pause 1) then pause 1)")
        self.check("fail", "call t", "(within 21 (hole else pause 21) then pause 1)")

    def test_a_plan_may_stand_for_itself_and_for_one_with_more_outcomes(self):
        for text in PLANS:
            self.check(text, text, None)
        self.check("call s", "call t", None)
        self.check("call c", "call t", None)
        self.check("within 3 call a", "(within 3 call a else within 4 call a)",
                   "(within 7 (hole else pause 5) then pause 1)")
        self.check("call h", "call b", None)
        self.check("fail", "within 0 call a", None)
        self.check("within 0 call a", "fail", None)

    def test_all_pairs_of_plans(self):
        sets = {text: reference.as_set(outcomes(parsed(text), CONTRACTS)) for text in PLANS}
        for first, second in itertools.product(PLANS, repeat=2):
            self.check(first, second, surrounding_text(sets[first], sets[second]))

    def test_many_plans_against_all_worlds(self):
        contracts = {"a": Contract(ok=(1, 3), fail=(2, 2)), "b": Contract(ok=(2, 2), hang=True), "c": Contract(fail=(1, 2))}
        some = reference.some_trees(11, 60, 2, [0, 1, 2, 3])
        sets = [reference.outcomes(tree, contracts) for tree in some]
        for (one, first), (two, second) in itertools.product(list(zip(some, sets)), repeat=2):
            self.check(trees.text_of(one), trees.text_of(two), surrounding_text(first, second), contracts)

    def test_a_plan_that_may_stand_is_never_later(self):
        found = 0
        for first, second in itertools.product(PLANS, repeat=2):
            if surrounding_for(parsed(first), parsed(second), CONTRACTS) is None:
                found += 1
                for around in AROUND:
                    self.assertIs(is_later(parsed(around), parsed(first), parsed(second), CONTRACTS), False)
        self.assertGreater(found, len(PLANS))

    def test_great_numbers(self):
        contracts = {"a": Contract(ok=(1, LAST), fail=(1, LAST), hang=True), "b": Contract(ok=(1, LAST - 1), fail=(1, LAST))}
        self.check("call b", "call a", None, contracts)
        self.check("call a", "call b", "hole", contracts)
        self.check("within 1000000 call a", "call b", "(within 1000000 hole then pause 1)", contracts)
        eight = chain(["call b"] * 8)
        self.check(eight, "call b", f"(within {LAST} hole then pause 1)", contracts)
        self.check("(call b then fail)", "fail", "(within 1 (hole else pause 0) then pause 1)", contracts)
        self.check("fail", eight, f"(within {8 * LAST - 7} (hole else pause {8 * LAST - 7}) then pause 1)", contracts)
        retries = "retry 8 1000000 call a"
        self.check(f"within 1000000 {retries}", retries, f"(within {15 * LAST + 1} (hole else pause {14 * LAST + 1}) then pause 1)",
                   contracts)

    def test_numbers_beyond_those_of_texts_are_no_error(self):
        second = "(pause 1000000000 then pause 1000000000)"
        found = surrounding_for(parsed("fail"), parsed(second), {})
        self.assertEqual(str(found), "(within 2000000001 (hole else pause 2000000001) then pause 1)")
        self.assertIs(is_later(found, parsed("fail"), parsed(second), {}), True)

    def test_plans_that_are_just_small(self):
        contracts = {"a": Contract(ok=(1, 2), fail=(1, 2), hang=True)}
        for text in just_small():
            self.check(text, text, None, contracts)
            self.assertIs(type(surrounding_for(parsed("pause 500"), parsed(text), contracts)), Plan)

    def test_errors_of_the_first_plan_come_first(self):
        known = {"a": Contract(hang=True)}
        large = one_too_large()[0]
        wrong = [("hole", HasHole), ("(within ? call x then call a)", HasHole), ("call x", UnknownService),
                 ("(call a then call y)", UnknownService), (large, TooLarge), (f"({large} then hole)", HasHole),
                 (f"({large} then call z)", UnknownService)]
        for (first, error), (second, other) in itertools.product(wrong + [("call a", None)], repeat=2):
            if error or other:
                with self.assertRaises(error or other, msg=(first, second)) as caught:
                    surrounding_for(parsed(first), parsed(second), known)
                if (error or other) is UnknownService:
                    self.assertEqual(caught.exception.name, (first if error else second).rstrip(")")[-1])

    def test_nothing_changes(self):
        contracts = dict(CONTRACTS)
        first, second = parsed("retry 2 1 call f"), parsed("call a")
        texts = [str(surrounding_for(first, second, some)) for some in (contracts, dict(reversed(contracts.items())))]
        self.assertEqual(texts[0], texts[1])
        self.assertEqual([str(first), str(second), contracts], ["retry 2 1 call f", "call a", CONTRACTS])
        self.assertEqual(list(contracts), list(CONTRACTS))


class IsLaterTest(unittest.TestCase):
    def check(self, wanted, around, first, second):
        found = is_later(parsed(around), parsed(first), parsed(second), CONTRACTS)
        self.assertIs(found, wanted, (around, first, second))

    def test_worst_times(self):
        self.check(False, "hole", "call a", "call a")
        self.check(True, "hole", "call c", "call a")
        self.check(False, "hole", "call a", "call c")
        self.check(False, "hole", "pause 4", "call a")
        self.check(True, "hole", "pause 5", "call a")
        self.check(False, "hole", "fail", "pause 0")
        self.check(True, "(hole else call t)", "fail", "pause 19")
        self.check(False, "(hole else call t)", "fail", "pause 20")

    def test_endless_plans(self):
        self.check(False, "hole", "call h", "call b")
        self.check(False, "hole", "call b", "call h")
        self.check(True, "hole", "call h", "call t")
        self.check(False, "hole", "call t", "call h")
        self.check(False, "within 7 hole", "call h", "pause 8")
        self.check(True, "within 7 hole", "call h", "pause 6")
        self.check(False, "(call h then hole)", "call t", "call a")
        self.check(False, "(call h both hole)", "fail", "pause 3")
        self.check(True, "(call h both hole)", "pause 3", "fail")

    def test_the_hole_inside_of_retries(self):
        self.check(True, "retry 2 1 hole", "call f", "within 5 call f")
        self.check(True, "retry 2 1 hole", "(pause 3 then fail)", "pause 6")
        self.check(False, "retry 2 1 hole", "(pause 3 then fail)", "pause 7")
        self.check(True, "within 9 retry 3 0 (hole both call s)", "call f", "call c")
        self.check(False, "within 9 retry 3 0 (hole both call s)", "call f", "call t")
        self.check(False, "retry 8 0 hole", "fail", "pause 0")

    def test_against_all_worlds(self):
        contracts = {name: CONTRACTS[name] for name in "abcsf"}
        for around, first, second in itertools.product(AROUND, PLANS[:14:2], PLANS[1:14:2]):
            if "h" not in (first[-1], second[-1]) and "call t" not in around:
                plans = [plug(parsed(around), parsed(first)), plug(parsed(around), parsed(second))]
                worst = [outcomes(plan, contracts).worst() for plan in plans]
                later = worst[1] is not None and (worst[0] is None or worst[0] > worst[1])
                self.assertIs(is_later(parsed(around), parsed(first), parsed(second), contracts), later)

    def test_by_name(self):
        found = is_later(surrounding=parsed("hole"), first=parsed("call c"), second=parsed("call a"), contracts=CONTRACTS)
        self.assertIs(found, True)

    def test_no_hole_comes_first(self):
        for around in ["fail", "call x", "(hole then hole)", "within ? hole", "within ? fail", "(within ? fail then hole)",
                       "retry 2 0 (hole else hole)", "retry 8 0 retry 8 0 call a"]:
            for first, second in itertools.product(["call a", "hole", "call x", one_too_large()[0]], repeat=2):
                with self.assertRaises(NoHole, msg=around):
                    is_later(parsed(around), parsed(first), parsed(second), CONTRACTS)

    def test_errors_with_the_first_plan_come_before_those_with_the_second_one(self):
        wrong = [("hole", HasHole, None), ("(call x then within ? call a)", HasHole, None), ("call x", UnknownService, "x"),
                 ("(call a then call y)", UnknownService, "y"), (one_too_large()[0], TooLarge, None),
                 (f"({one_too_large()[0]} then call z)", UnknownService, "z"), (f"({one_too_large()[0]} both hole)", HasHole, None)]
        for around in ("hole", "(call a then hole)", "retry 2 0 within 3 hole"):
            for first, second in itertools.product(wrong + [("call a", None, None)], repeat=2):
                error = first if first[1] else second
                if error[1]:
                    with self.assertRaises(error[1], msg=(around, first, second)) as caught:
                        is_later(parsed(around), parsed(first[0]), parsed(second[0]), CONTRACTS)
                    if error[2]:
                        self.assertEqual(caught.exception.name, error[2])

    def test_services_of_the_surrounding_plan(self):
        with self.assertRaises(UnknownService) as caught:
            is_later(parsed("(hole then call x)"), parsed("call a"), parsed("call y"), CONTRACTS)
        self.assertEqual(caught.exception.name, "x")
        with self.assertRaises(UnknownService) as caught:
            is_later(parsed("(hole then call x)"), parsed("call y"), parsed("call a"), CONTRACTS)
        self.assertEqual(caught.exception.name, "y")

    def test_plans_that_are_small_only_alone(self):
        four = "retry 4 0 call a"
        self.check(False, "retry 2 0 hole", four, four)
        for first, second in [("retry 5 0 call a", four), (four, "retry 5 0 call a")]:
            with self.assertRaises(TooLarge):
                is_later(parsed("retry 2 0 hole"), parsed(first), parsed(second), CONTRACTS)


if __name__ == "__main__":
    unittest.main()
