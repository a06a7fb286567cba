import copy
import random
import unittest

import reference
import replysets
import stepping
import trees
from callplans.bound import Bound, bound_by, bound_in, bound_of
from callplans.contracts import Contract
from callplans.errors import UnknownCall
from callplans.outcomes import Outcomes
from callplans.plans import Plan
from callplans.registry import Registry
from callplans.runs import Run
from callplans.times import Times
from checking import error_of
from replysets import made, outcomes_in, some_bounds, wide_sets
from sizes import just_small, one_too_large
from values import any_values

NEVER = ("never",)
ONE = made([(1, 1)])
FOUR = made([(1, 1), (3, 3)], [(1, 1), (3, 3)])
CONTRACTS = {
    "a": Contract(ok=(1, 3), fail=(2, 4)), "b": Contract(ok=(2, 2), fail=(5, 5), hang=True), "c": Contract(fail=(1, 2)),
}
PAIR = Plan.parse("(call a then call b)")


def pair():
    """Returns a bound plan with two calls."""
    return Bound(PAIR, [made([(1, 3)], [(5, 6)]), made([(2, 2), (7, 9)], [], True)])


class BoundTest(unittest.TestCase):
    def test_example(self):
        some = Outcomes(Times([(1, 2), (5, 6)]), Times([(3, 3)]), False)
        bound = Bound(Plan.parse("(call a else call b)"), [some, some])
        found = [bound.outcomes().ok.ranges, bound.outcomes().fail.ranges, bound.worlds()]
        self.assertEqual(found, [((1, 2), (4, 6), (8, 9)), ((6, 6),), 25])

    def test_against_all_worlds(self):
        source = random.Random(101)
        for tree, bound in some_bounds(source, 102, 250, 4):
            ends = replysets.outcomes_of(tree, bound.replies())
            self.assertEqual(bound.outcomes(), outcomes_in(set(ends)), tree)
            self.assertEqual(bound.worlds(), len(ends), tree)
            self.assertIs(type(bound.worlds()), int)
            self.assertEqual(len(bound), len(trees.services(tree)))

    def test_more_replies_lose_no_outcome(self):
        source = random.Random(103)
        for tree, bound in some_bounds(source, 104, 150, 4):
            few = Bound(bound.plan, [replysets.part_of(source, some) for some in bound.replies()])
            self.assertTrue(few.outcomes().is_within(bound.outcomes()), tree)

    def test_without_calls(self):
        bound = Bound(Plan.parse("(pause 2 then pause 3)"), [])
        self.assertEqual((len(bound), bound.replies(), bound.worlds()), (0, [], 1))
        self.assertEqual(bound.outcomes(), made([(5, 5)]))
        self.assertEqual(bound.at([]), bound)
        self.assertTrue(bound.is_world([]))
        self.assertEqual(error_of(bound.at, [("ok", 1)]), ("BadWorld", 0))

    def test_names_in_another_order(self):
        bound = Bound(replies=[ONE, FOUR], plan=PAIR)
        self.assertEqual(bound.plan, PAIR)
        self.assertEqual(bound.with_replies(outcomes=ONE, number=1), Bound(PAIR, [ONE, ONE]))
        self.assertEqual(bound.at(world=[("ok", 1), ("ok", 3)]), Bound(PAIR, [ONE, made([(3, 3)])]))
        self.assertTrue(bound.is_world(value=[("ok", 1), ("ok", 3)]))
        contracts = {"a": CONTRACTS["a"], "b": CONTRACTS["b"]}
        self.assertEqual(bound_by(contracts=contracts, plan=PAIR), bound_by(PAIR, contracts))
        self.assertEqual(bound_of(contracts=contracts, run=Run(PAIR)), bound_by(PAIR, contracts))
        registry = Registry()
        registry.change(contracts=contracts, plans={"p": PAIR})
        registry.begin("p")
        self.assertEqual(bound_in(number=0, registry=registry), bound_by(PAIR, contracts))

    def test_errors_of_plans(self):
        for value in (None, [], [ONE] * 20):
            self.assertEqual(error_of(Bound, Plan.parse("(call a then hole)"), value), ("HasHole",))
            self.assertEqual(error_of(Bound, Plan.parse("within ? call a"), value), ("HasHole",))
            for text in one_too_large():
                self.assertEqual(error_of(Bound, Plan.parse(text), value), ("TooLarge",))
                self.assertEqual(error_of(Bound, Plan.parse(f"(hole then {text})"), value), ("HasHole",))

    def test_replies_that_are_no_list(self):
        for value in any_values() + [(ONE, ONE), ONE, {0: ONE, 1: ONE}, "ab", Times([(1, 2)])]:
            if not isinstance(value, list):
                self.assertEqual(error_of(Bound, PAIR, value), ("BadReplies", 0), value)

    def test_things_that_are_no_sets_of_replies(self):
        bad = [made(), made([(0, 3)]), made([(1, 10**6 + 1)]), made([], [(0, 0)]), made([(5, 5)], [(10**6, 10**7)]),
               made([(1, 1), (3, 3), (5, 5)]), made([], [(1, 1), (3, 3), (5, 5)], True), made([(10**12, 10**12)]),
               [ONE], (ONE,), Times([(1, 2)]), CONTRACTS["a"], PAIR, ("ok", 1), NEVER]
        for value in bad + any_values():
            self.assertEqual(error_of(Bound, PAIR, [value, ONE]), ("BadReplies", 0), value)
            self.assertEqual(error_of(Bound, PAIR, [ONE, value]), ("BadReplies", 1), value)
            self.assertEqual(error_of(Bound, PAIR, [value, value]), ("BadReplies", 0), value)
            self.assertEqual(error_of(Bound, PAIR, [ONE, value, ONE]), ("BadReplies", 1), value)
            self.assertEqual(error_of(Bound, PAIR, [ONE, ONE, value]), ("BadReplies", 2), value)
            self.assertEqual(error_of(pair().with_replies, 1, value), ("BadReplies", 1), value)

    def test_sets_of_replies_at_the_limits(self):
        for good in (made([(1, 10**6)], [(1, 10**6)], True), made([], [], True), made([(10**6, 10**6)]),
                     made([(1, 1), (10**6, 10**6)], [(1, 1), (10**6, 10**6)])):
            self.assertEqual(Bound(PAIR, [good, ONE])[0], good)

    def test_too_short_and_too_long(self):
        for value, number in [([], 0), ([ONE], 1), ([ONE, ONE, ONE], 2), ([ONE] * 9, 2), ([made()], 0)]:
            self.assertEqual(error_of(Bound, PAIR, value), ("BadReplies", number))
        self.assertEqual(error_of(Bound, Plan.parse("fail"), [ONE]), ("BadReplies", 0))

    def test_ranges_in_all(self):
        plan = Plan.parse("retry 5 0 call a")
        self.assertEqual(len(Bound(plan, [FOUR] * 4 + [made([], [], True)])), 5)
        self.assertEqual(error_of(Bound, plan, [FOUR] * 4 + [ONE]), ("BadReplies", 5))
        self.assertEqual(error_of(Bound, plan, [FOUR] * 5), ("BadReplies", 5))
        self.assertEqual(error_of(Bound, plan, [FOUR] * 4 + [made()]), ("BadReplies", 4))
        bound = Bound(plan, [FOUR] * 3 + [made([(1, 1)], [(1, 1), (3, 3)]), ONE])
        self.assertEqual(error_of(bound.with_replies, 4, made([(1, 1), (3, 3)])), ("BadReplies", 5))
        self.assertEqual(bound.with_replies(4, made([], [(3, 3)], True))[4], made([], [(3, 3)], True))

    def test_numbers_of_calls(self):
        bound = pair()
        self.assertEqual([bound[0], bound[1]], bound.replies())
        values = [value for value in any_values() if not (isinstance(value, int) and not isinstance(value, bool)
                                                          and value in (0, 1))]
        for value in values + [2, -1, -2, [0], "0", (0,), [], 10**20, -10**20]:
            for ask in (bound.__getitem__, lambda number: bound.with_replies(number, ONE),
                        lambda number: bound.with_replies(number, None)):
                with self.assertRaises(UnknownCall) as caught:
                    ask(value)
                self.assertIs(caught.exception.number, value)
        self.assertEqual(error_of(lambda: bound[-1]), ("UnknownCall", -1))
        self.assertEqual(error_of(lambda: Bound(Plan.parse("fail"), [])[0]), ("UnknownCall", 0))

    def test_is_not_iterated(self):
        with self.assertRaises(TypeError):
            list(pair())

    def test_with_replies(self):
        bound = pair()
        changed = bound.with_replies(1, FOUR)
        self.assertEqual(changed.replies(), [bound[0], FOUR])
        self.assertEqual(bound, pair())
        self.assertEqual(changed.with_replies(1, bound[1]), bound)

    def test_equal(self):
        bound = pair()
        self.assertTrue(bound == pair() and not bound != pair())
        others = [bound.with_replies(0, ONE), bound.with_replies(1, ONE),
                  Bound(Plan.parse("(call a then call c)"), bound.replies()),
                  Bound(Plan.parse("(call a else call b)"), bound.replies())]
        for other in others + any_values() + [bound.replies(), bound.plan, bound.outcomes()]:
            self.assertFalse(bound == other or other == bound)
            self.assertTrue(bound != other and other != bound)

    def test_what_is_handed_in_and_told_may_change(self):
        replies = [ONE, FOUR]
        bound = Bound(PAIR, replies)
        replies[0] = FOUR
        replies.append(ONE)
        told = bound.replies()
        self.assertIs(type(told), list)
        self.assertIsNot(told, bound.replies())
        told.clear()
        self.assertEqual(bound.replies(), [ONE, FOUR])
        self.assertEqual(bound, Bound(PAIR, [ONE, FOUR]))
        value = [ONE, made(), 3]
        kept = list(value)
        error_of(Bound, PAIR, value)
        self.assertEqual(value, kept)

    def test_worlds_of_a_bound_plan(self):
        source = random.Random(105)
        for tree, bound in some_bounds(source, 106, 60, 3):
            worlds = replysets.worlds(bound.replies())
            ends = replysets.outcomes_of(tree, bound.replies())
            for world, end in list(zip(worlds, ends))[:40]:
                kept = copy.deepcopy(world)
                self.assertTrue(bound.is_world(world))
                single = bound.at(world)
                self.assertEqual(world, kept)
                self.assertEqual((single.plan, single.worlds()), (bound.plan, 1))
                self.assertEqual(single.outcomes(), outcomes_in([end]))
                self.assertEqual(single.replies(), [outcomes_in([reply]) for reply in world])

    def test_values_that_are_no_worlds(self):
        bound = pair()
        good = [("ok", 2), NEVER]
        bad = [("ok", 4), ("ok", 0), ("fail", 4), NEVER, ("ok", 2, 2), ("ok", True), ("ok",), ["ok", 2], ("no", 2)]
        for value in bad + any_values():
            cases = [([value, NEVER], 0), ([good[0], value], 1), ([value, value], 0), ([value], 0),
                     ([good[0], NEVER, value], 2), ([good[0], value, NEVER], 1)]
            for world, number in cases:
                if value == NEVER and world[1:2] == [NEVER] and world[0] == good[0] and len(world) == 2:
                    continue
                wanted = 2 if value == NEVER and world[:2] == good else number
                self.assertFalse(bound.is_world(world), world)
                self.assertEqual(error_of(bound.at, world), ("BadWorld", wanted), world)
        for value in any_values() + [tuple(good), {0: good[0], 1: NEVER}]:
            if not isinstance(value, list):
                self.assertFalse(bound.is_world(value))
                self.assertEqual(error_of(bound.at, value), ("BadWorld", 0))
        self.assertEqual(error_of(bound.at, []), ("BadWorld", 0))
        self.assertEqual(error_of(bound.at, good[:1]), ("BadWorld", 1))
        self.assertEqual(error_of(bound.at, good * 3), ("BadWorld", 2))
        self.assertFalse(bound.is_world(good[:1]) or bound.is_world([]) or bound.is_world(good * 3))
        self.assertIs(bound.is_world(good), True)
        self.assertIs(bound.is_world(None), False)

    def test_great_plans(self):
        for text in just_small():
            plan = Plan.parse(text)
            calls = len(plan.calls())
            bound = Bound(plan, wide_sets(calls, hang=True))
            self.assertEqual(bound.worlds(), (2 * 10**6 + 1)**calls)
            self.assertEqual(bound.outcomes(), bound_by(plan, {"a": Contract(ok=(1, 10**6), fail=(1, 10**6),
                                                                             hang=True)}).outcomes())
            world = [("ok", 10**6)] * calls
            self.assertTrue(bound.is_world(world))
            self.assertEqual(bound.at(world).worlds(), 1)
        plan = Plan.parse("retry 2 1000000000 retry 4 1000000000 call a")
        halves = [made([(1, 10), (10**6, 10**6)], []) for _ in range(8)]
        self.assertEqual(Bound(plan, halves).outcomes().ok.ranges, ((1, 10), (10**6, 10**6)))
        self.assertEqual(Bound(plan, halves).worlds(), 11**8)
        chain = Plan.parse("(" + "call a then (" * 6 + "call a then call a" + ")" * 7)
        spread = [made([(1, 1), (4**number, 4**number)]) for number in range(1, 9)]
        found = Bound(chain, spread).outcomes()
        self.assertEqual((found.ok.least(), found.ok.greatest()), (8, sum(4**number for number in range(1, 9))))


    def test_great_runs(self):
        wide = {"a": Contract(ok=(1, 10**6), fail=(1, 10**6), hang=True)}
        every = made([(1, 10**6)], [(1, 10**6)], True)
        plan = Plan.parse("retry 8 1000000000 call a")
        registry, run = Registry(), Run(plan)
        registry.change(contracts=wide, plans={"p": plan})
        registry.begin("p")
        for time, replies in [(400000, [(0, "fail")]), (10**9 + 400000, []), (10**9 + 400007, [])]:
            run.close(time, replies)
            registry.close(0, time, replies)
        wanted = [made([], [(400000, 400000)]), made([(8, 10**6)], [(8, 10**6)], True)] + [every] * 6
        self.assertEqual(bound_of(run, wide), Bound(plan, wanted))
        self.assertEqual(bound_in(registry, 0), Bound(plan, wanted))
        self.assertEqual(bound_of(run, wide).worlds(), (2 * (10**6 - 7) + 1) * (2 * 10**6 + 1)**6)
        self.assertEqual(bound_of(run, wide).outcomes().fail.greatest(), 7 * 10**9 + 7 * 10**6 + 400000)
        self.assertEqual(registry.possible(0), bound_in(registry, 0).outcomes())


class BindingTest(unittest.TestCase):
    def test_bound_by(self):
        plan = Plan.parse("retry 2 1 (call a then within 3 call b)")
        bound = bound_by(plan, CONTRACTS)
        wanted = [made([(1, 3)], [(2, 4)]), made([(2, 2)], [(5, 5)], True)]
        self.assertEqual(bound, Bound(plan, wanted * 2))
        self.assertEqual(bound_by(plan, dict(reversed(list(CONTRACTS.items())))), bound)

    def test_errors_of_bound_by(self):
        large = one_too_large()[0]
        for text, wanted in [("(call x then hole)", ("HasHole",)), (f"(hole then {large})", ("HasHole",)),
                             ("within ? call x", ("HasHole",)), ("(call a then (call y then call x))",
                                                                 ("UnknownService", "y")),
                             (f"({large} then call x)", ("UnknownService", "x")), (large, ("TooLarge",))]:
            self.assertEqual(error_of(bound_by, Plan.parse(text), CONTRACTS), wanted, text)

    def check_run(self, tree, contracts, run, ask, told):
        """Checks what ask returns of a run against the worlds of point 15, with contracts call by call."""
        sets = [{reply for reply in reference.replies(contract) if stepping.agrees(reply, item, run.time)}
                for contract, item in zip(contracts, run.record())]
        if not all(sets):
            number = [bool(some) for some in sets].index(False)
            self.assertEqual(error_of(*ask), ("Broken", number), told)
            return None
        bound = ask[0](*ask[1:])
        self.assertEqual(bound.plan, replysets.plan_of(tree))
        self.assertEqual([reference.as_set(some) for some in bound.replies()], sets, told)
        return bound

    def test_bound_of(self):
        source, open_runs, broken = random.Random(107), 0, 0
        for tree in reference.some_trees(108, 250, 5, [0, 1, 2, 3, 5], depth=4):
            run = Run(replysets.plan_of(tree))
            contracts = [CONTRACTS[name] for name in trees.services(tree)]
            self.assertEqual(bound_of(run, CONTRACTS), bound_by(run.plan, CONTRACTS))
            for _ in range(5):
                time = run.time + source.choice([1, 2])
                replies = [(number, source.choice(["ok", "fail"])) for number, _ in run.waiting()][:2]
                if error_of(run.close, time, replies) is not None:
                    run.close(time, [])
                found = self.check_run(tree, contracts, run, (bound_of, run, CONTRACTS), (tree, run.record()))
                if found is None:
                    broken += 1
                else:
                    open_runs += 1
                    self.assertEqual(found.outcomes(), run.possible(CONTRACTS))
        self.assertGreater(min(open_runs, broken), 200)

    def test_errors_of_bound_of(self):
        run = Run(Plan.parse("(call a both (call x both call y))"))
        run.close(10, [])
        self.assertEqual(error_of(bound_of, run, CONTRACTS), ("UnknownService", "x"))
        self.assertEqual(error_of(bound_of, run, {"x": CONTRACTS["a"], **CONTRACTS}), ("UnknownService", "y"))
        known = {"x": CONTRACTS["a"], "y": CONTRACTS["b"], **CONTRACTS}
        for _ in range(2):
            self.assertEqual(error_of(bound_of, run, known), ("Broken", 0))
        self.assertEqual(error_of(bound_of, run, {**known, "a": Contract(hang=True)}), ("Broken", 1))

    def test_bound_in(self):
        registry = Registry()
        early, late = Contract(ok=(1, 3), fail=(2, 4)), Contract(ok=(4, 6), hang=True)
        plan = Plan.parse("(call a then (call a either within 2 call a))")
        registry.change(contracts={"a": early}, plans={"p": plan})
        registry.begin("p")
        self.assertEqual(bound_in(registry, 0), bound_by(plan, {"a": early}))
        registry.change(contracts={"a": late})
        first = made([(1, 3)], [(2, 4)])
        wanted = made([(4, 6)], [], True)
        self.assertEqual(bound_in(registry, 0), Bound(plan, [first, wanted, wanted]))
        registry.close(0, 2, [(0, "ok")])
        registry.change(contracts={"a": early})
        registry.close(0, 7, [])
        self.assertEqual(bound_in(registry, 0), Bound(plan, [made([(2, 2)]), made([(6, 6)], [], True), wanted]))
        registry.close(0, 8, [(1, "ok")])
        self.assertEqual(bound_in(registry, 0).outcomes(), made([(8, 8)]))
        self.assertEqual(registry.outcome(0), ("ok", 8))
        self.assertEqual(bound_in(registry, 0)[2], wanted)

    def test_errors_of_bound_in(self):
        registry = Registry()
        registry.change(contracts=CONTRACTS, plans={"p": Plan.parse("(call b both (call a both call c))")})
        registry.begin("p")
        for number in (1, -1, 10**20):
            self.assertEqual(error_of(bound_in, registry, number), ("UnknownRun", number))
        registry.close(0, 3, [(2, "ok")])
        for _ in range(2):
            self.assertEqual(error_of(bound_in, registry, 0), ("Broken", 2))
        registry.close(0, 5, [])
        self.assertEqual(error_of(bound_in, registry, 0), ("Broken", 1))

    def test_bound_plans_stay_while_runs_go_on(self):
        run = Run(PAIR)
        before = bound_of(run, CONTRACTS)
        kept = before.replies()
        run.close(2, [(0, "ok")])
        self.assertEqual(before.replies(), kept)
        self.assertEqual(bound_of(run, CONTRACTS)[0], made([(2, 2)]))

    def test_sets_get_no_more_replies(self):
        source = random.Random(109)
        for tree in reference.some_trees(110, 150, 4, [0, 1, 2, 3], depth=4):
            run = Run(replysets.plan_of(tree))
            before = bound_of(run, CONTRACTS)
            for _ in range(6):
                replies = [(number, source.choice(["ok", "fail"])) for number, _ in run.waiting()]
                run.close(run.time + 1, source.sample(replies, min(len(replies), source.choice([0, 0, 1, 2]))))
                if error_of(bound_of, run, CONTRACTS) is not None:
                    break
                after = bound_of(run, CONTRACTS)
                self.assertTrue(all(few.is_within(many) for few, many in zip(after.replies(), before.replies())))
                before = after


if __name__ == "__main__":
    unittest.main()
