import itertools
import random
import unittest

import reference
import replysets
from callplans.bound import Bound, bound_by
from callplans.contracts import Contract
from callplans.errors import UnknownCall
from callplans.plans import Plan
from callplans.reasons import changed_world, changes, reasons, settled, world_ending
from checking import error_of
from replysets import made, outcomes_in, part_of, some_bounds, some_wanted, wide_sets
from sizes import just_small
from values import any_values

NEVER = ("never",)
ALL = made([(0, 10**12)], [(0, 10**12)], True)
EARLY = made([(0, 5)])


def answer(ends, wanted):
    """Returns the answer of a collection of outcomes, by point 23."""
    inside = [end in wanted for end in ends]
    return True if all(inside) else None if any(inside) else False


def all_parts(many):
    """Returns all sets of that many calls."""
    return [part for size in range(many + 1) for part in itertools.combinations(range(many), size)]


def smallest(parts):
    """Returns the sorted list of those sets of calls of which no smaller part is among them."""
    return sorted(part for part in parts if not any(set(other) < set(part) for other in parts))


class Case:
    """A wide and a narrow bound plan, with the answers for all sets of calls over all worlds."""

    def __init__(self, source, tree, wide, wanted):
        self.tree, self.wide, self.wanted = tree, wide, wanted
        single = source.random() < 0.6
        sets = [replysets.one_of(source, some) if single else part_of(source, some) for some in wide.replies()]
        self.narrow = Bound(wide.plan, sets)
        self.many = len(wide)
        self.told = (tree, [reference.as_set(some) for some in wide.replies()],
                     [reference.as_set(some) for some in sets], reference.as_set(wanted))
        self.known = {}
        self.answer = answer(replysets.outcomes_of(tree, sets), wanted)

    def answer_with(self, calls):
        """Returns the answer where these calls have their sets of narrow, and all others those of wide."""
        if calls not in self.known:
            sets = self.sets_of(calls, self.narrow.replies(), self.wide.replies())
            self.known[calls] = answer(set(replysets.outcomes_of(self.tree, sets)), self.wanted)
        return self.known[calls]

    def sets_of(self, calls, few, many):
        """Returns the sets of few for these calls, and those of many for the others."""
        return [few[number] if number in calls else many[number] for number in range(self.many)]

    def is_reason(self, calls):
        return self.answer_with(tuple(calls)) is not None

    def is_change(self, calls):
        return self.answer_with(tuple(number for number in range(self.many) if number not in calls)) is None


def some_cases(seed, many, calls, depth=4):
    """Returns cases with plans of that many calls at most."""
    source = random.Random(seed)
    found = []
    for tree, bound in some_bounds(source, seed + 1, 2 * many, calls, depth=depth, far=3):
        if len(bound) < 2 and source.random() < 0.9 or bound.worlds() > 400:
            continue
        ends = sorted(set(replysets.outcomes_of(tree, bound.replies())), key=str)
        near = outcomes_in(source.sample(ends, source.randint(0, len(ends))))
        found.append(Case(source, tree, bound, source.choice([near, near, near, some_wanted(source, 8)])))
    return found


def both():
    """Returns the bound plan of the example, which is open for EARLY."""
    return bound_by(Plan.parse("(call a both call b)"), {"a": Contract(ok=(1, 9)), "b": Contract(ok=(1, 9))})


class SettledTest(unittest.TestCase):
    def test_against_all_worlds(self):
        found = []
        for case in some_cases(201, 400, 4):
            for bound in (case.wide, case.narrow):
                wanted = answer(replysets.outcomes_of(case.tree, bound.replies()), case.wanted)
                self.assertIs(settled(bound, case.wanted), wanted, case.told)
                found.append(wanted)
        for kind in (True, False, None):
            self.assertGreater(found.count(kind), 80)

    def test_certain_sets(self):
        for text in ("call a", "(call a both call b)", "fail", "pause 3", "within 2 call a"):
            bound = bound_by(Plan.parse(text), {"a": Contract(ok=(1, 3), hang=True), "b": Contract(fail=(1, 2))})
            self.assertIs(settled(bound, made()), False)
            self.assertIs(settled(bound, ALL), True)
        never = made([], [], True)
        hanging = bound_by(Plan.parse("call a"), {"a": Contract(hang=True)})
        self.assertIs(settled(hanging, never), True)
        self.assertIs(settled(hanging, made([(0, 10**12)], [(0, 10**12)])), False)
        self.assertIs(settled(both(), never), False)
        self.assertIsNone(settled(bound_by(Plan.parse("call a"), {"a": Contract(ok=(1, 3), hang=True)}), never))
        self.assertIs(settled(wanted=made([], [(0, 10**12)]), bound=both()), False)
        self.assertIsNone(settled(both(), EARLY))


class ReasonsTest(unittest.TestCase):
    def test_example(self):
        wide = both()
        late, later = wide.at([("ok", 7), ("ok", 2)]), wide.at([("ok", 7), ("ok", 8)])
        found = [reasons(wide, late, EARLY), changes(wide, late, EARLY),
                 reasons(wide, later, EARLY), changes(wide, later, EARLY)]
        self.assertEqual(found, [[(0,)], [(0,)], [(0,), (1,)], [(0, 1)]])

    def check(self, case):
        parts = all_parts(case.many)
        known = smallest([part for part in parts if case.is_reason(part)])
        changing = smallest([part for part in parts if case.is_change(part)])
        found, found_changes = (ask(case.wide, case.narrow, case.wanted) for ask in (reasons, changes))
        self.assertEqual((found, found_changes), (known, changing), case.told)
        for part in parts:
            self.assertEqual(case.is_reason(part), all(set(part) & set(change) for change in found_changes))
            self.assertEqual(case.is_change(part), all(set(part) & set(reason) for reason in found))
        self.assertEqual({type(part) for part in found + found_changes} <= {tuple}, True)
        return len(found), len(found_changes)

    def test_against_all_sets_of_calls(self):
        sizes = []
        for case in some_cases(203, 500, 4):
            if case.answer is None:
                for ask in (reasons, changes):
                    self.assertEqual(error_of(ask, case.wide, case.narrow, case.wanted), ("NotSettled",))
            else:
                sizes.append(self.check(case))
        self.assertGreater(len(sizes), 250)
        self.assertGreater(len([size for size in sizes if size[1] > 1]), 10)
        self.assertGreater(len([size for size in sizes if size[0] > 1]), 10)

    def test_ascending_order(self):
        # Three of four calls in time are enough for one side, two of two for the other one.
        plan = Plan.parse("((call a both (call b both call c)) either (call d both (call a either call b)))")
        wide = Bound(plan, [made([(1, 9)])] * 6)
        found = reasons(wide, wide.at([("ok", 2)] * 6), EARLY)
        self.assertEqual(found, [(0, 1, 2), (3, 4), (3, 5)])
        self.assertEqual(changes(wide, wide.at([("ok", 2)] * 6), EARLY),
                         [(0, 3), (0, 4, 5), (1, 3), (1, 4, 5), (2, 3), (2, 4, 5)])
        late = wide.at([("ok", 8)] * 6)
        self.assertEqual(reasons(wide, late, EARLY), [(0, 3), (0, 4, 5), (1, 3), (1, 4, 5), (2, 3), (2, 4, 5)])
        self.assertEqual(changes(wide, late, EARLY), [(0, 1, 2), (3, 4), (3, 5)])

    def test_wide_plan_that_is_settled(self):
        wide = both()
        narrow = wide.at([("ok", 7), ("ok", 2)])
        for wanted in (ALL, made(), made([(0, 9)]), made([(10, 20)])):
            self.assertEqual(reasons(wide, narrow, wanted), [()])
            self.assertEqual(changes(wide, narrow, wanted), [])
            self.assertEqual(reasons(wide, wide, wanted), [()])
        bound = Bound(Plan.parse("pause 3"), [])
        self.assertEqual((reasons(bound, bound, EARLY), changes(bound, bound, EARLY)), ([()], []))

    def test_names_and_new_lists(self):
        wide = both()
        late = wide.at([("ok", 7), ("ok", 2)])
        for ask in (reasons, changes):
            first, second = ask(wanted=EARLY, narrow=late, wide=wide), ask(wide, late, EARLY)
            self.assertIs(type(first), list)
            self.assertIsNot(first, second)
            first.clear()
            self.assertEqual(ask(wide, late, EARLY), second)
        self.assertEqual(wide, both())

    def test_errors(self):
        wide = both()
        other = bound_by(Plan.parse("(call b both call a)"), {"a": Contract(ok=(1, 9)), "b": Contract(ok=(1, 9))})
        late = wide.at([("ok", 7), ("ok", 2)])
        above = late.with_replies(1, made([(2, 10)]))
        failing = late.with_replies(0, made([(7, 7)], [(1, 1)]))
        hanging = late.with_replies(0, made([(7, 7)], [], True))
        calls = [lambda *given: reasons(*given, EARLY), lambda *given: changes(*given, EARLY),
                 lambda *given: changed_world(*given, EARLY, []), lambda *given: changed_world(*given, EARLY, [None])]
        for ask in calls:
            for one, two in [(wide, other), (late, other), (wide, other.at([("ok", 1)] * 2)), (wide, above),
                             (late, wide), (wide, failing), (wide, hanging), (late.with_replies(0, made([(7, 8)])), wide)]:
                self.assertEqual(error_of(ask, one, two), ("OtherPlans",))
            for one, two in [(wide, wide), (wide, late.with_replies(0, made([(5, 6)])))]:
                self.assertEqual(error_of(ask, one, two), ("NotSettled",))

    def test_great_plans(self):
        wanted = made([(0, 2 * 10**6)])
        for text in just_small():
            plan = Plan.parse(text)
            wide = Bound(plan, wide_sets(len(plan.calls()), hang=True))
            for reply in (("ok", 1), ("fail", 10**6), NEVER):
                narrow = wide.at([reply] * len(wide))
                for inside in (True, False):
                    world = world_ending(wide, wanted, inside=inside)
                    self.assertEqual(world is None, settled(wide, wanted) is not None and settled(wide, wanted) != inside)
                    self.assertTrue(world is None or settled(wide.at(world), wanted) is inside)
                found = reasons(wide, narrow, wanted)
                changing = changes(wide, narrow, wanted)
                self.assertTrue(all(set(one) & set(other) for one in found for other in changing))
                for calls in changing:
                    world = changed_world(wide, narrow, wanted, list(calls))
                    self.assertIsNot(wide.at(world).outcomes().is_within(wanted), settled(narrow, wanted))
        chain = Plan.parse("(" + "call a then (" * 6 + "call a then call a" + ")" * 7)
        wide = Bound(chain, [made([(1, 10**5), (9 * 10**5, 10**6)]) for _ in range(8)])
        late = wide.at([("ok", 10**6)] * 8)
        self.assertEqual(reasons(wide, late, made([(0, 4 * 10**6)])), sorted(itertools.combinations(range(8), 4)))
        self.assertEqual(changes(wide, late, made([(0, 4 * 10**6)])), sorted(itertools.combinations(range(8), 5)))


class WorldsTest(unittest.TestCase):
    def test_world_ending_against_all_worlds(self):
        for case in some_cases(205, 400, 4):
            for bound in (case.wide, case.narrow):
                ends = set(replysets.outcomes_of(case.tree, bound.replies()))
                for inside in (True, False):
                    world = world_ending(bound, case.wanted, inside=inside)
                    fitting = [end for end in ends if (end in case.wanted) is inside]
                    self.assertEqual(world is None, not fitting, case.told)
                    if world is not None:
                        self.assertIs(type(world), list)
                        self.assertTrue(bound.is_world(world))
                        self.assertIn(reference.outcome(case.tree, world), fitting)

    def test_world_ending(self):
        wide = both()
        self.assertEqual(max(world_ending(wide, EARLY))[1] <= 5, True)
        self.assertEqual(max(world_ending(inside=False, wanted=EARLY, bound=wide))[1] > 5, True)
        self.assertIsNone(world_ending(wide, made([(10, 99)], [(0, 99)], True)))
        self.assertIsNone(world_ending(wide, ALL, inside=False))
        self.assertEqual(world_ending(Bound(Plan.parse("fail"), []), ALL), [])
        self.assertIsNot(world_ending(wide, EARLY), world_ending(wide, EARLY))
        with self.assertRaises(TypeError):
            world_ending(wide, EARLY, False)

    def test_changed_world_against_all_sets_of_calls(self):
        source = random.Random(207)
        changed = 0
        for case in some_cases(208, 300, 4):
            if case.answer is None:
                self.assertEqual(error_of(changed_world, case.wide, case.narrow, case.wanted, []), ("NotSettled",))
                continue
            for part in all_parts(case.many):
                calls = source.sample(part, len(part)) + list(part[:source.choice([0, 0, 1])])
                kept = list(calls)
                world = changed_world(case.wide, case.narrow, case.wanted, calls)
                self.assertEqual(calls, kept)
                self.assertEqual(world is not None, case.is_change(part), case.told)
                if world is not None:
                    changed += 1
                    sets = case.sets_of(part, case.wide.replies(), case.narrow.replies())
                    self.assertTrue(len(world) == case.many and all(reply in some for reply, some in zip(world, sets)))
                    self.assertIs(reference.outcome(case.tree, world) in case.wanted, not case.answer)
        self.assertGreater(changed, 200)

    def test_changed_world(self):
        wide = both()
        late = wide.at([("ok", 7), ("ok", 2)])
        self.assertIsNone(changed_world(wide, late, EARLY, []))
        self.assertIsNone(changed_world(wide, late, EARLY, [1, 1, 1]))
        world = changed_world(calls=[0, 0], wanted=EARLY, narrow=late, wide=wide)
        self.assertTrue(world[0] in made([(1, 5)]) and world[1] == ("ok", 2))
        early = wide.at([("ok", 4), ("ok", 2)])
        world = changed_world(wide, early, EARLY, [1])
        self.assertTrue(world[1] in made([(6, 9)]) and world[0] == ("ok", 4))

    def test_unknown_calls(self):
        wide = both()
        late = wide.at([("ok", 7), ("ok", 2)])
        values = [value for value in any_values() if not (isinstance(value, int) and not isinstance(value, bool)
                                                          and value in (0, 1))]
        for value in values + [2, -1, -2, "0", [0], (1,), 10**20]:
            for calls in ([value], [0, value, 7], [1, 1, value, None], [value, value]):
                with self.assertRaises(UnknownCall) as caught:
                    changed_world(wide, late, EARLY, calls)
                self.assertIs(caught.exception.number, value)
        for ask, wanted in [((wide, wide, EARLY, [9]), ("NotSettled",)), ((late, wide, EARLY, [9]), ("OtherPlans",))]:
            self.assertEqual(error_of(changed_world, *ask), wanted)

    def test_more_than_sixteen_ranges(self):
        # The sets of each side have at most 16 ranges, but a change takes some from both.
        plan = Plan.parse("(" + "call a then (" * 6 + "call a then call a" + ")" * 7)
        four, two = made([(1, 3), (5, 9)], [(1, 3), (5, 9)]), made([(1, 3), (5, 9)])
        wide = Bound(plan, [four, four] + [made([(1, 9)])] * 6)
        narrow = Bound(plan, [made([(1, 1)])] * 2 + [two] * 6)
        wanted = made([(0, 100)])
        self.assertEqual((reasons(wide, narrow, wanted), changes(wide, narrow, wanted)), ([(0, 1)], [(0,), (1,)]))
        for calls in ([0], [0, 1], [1, 0]):
            world = changed_world(wide, narrow, wanted, calls)
            self.assertIn(world.index(next(reply for reply in world if reply[0] == "fail")), calls)
        self.assertIsNone(changed_world(wide, narrow, wanted, [2, 3, 4, 5, 6, 7]))


if __name__ == "__main__":
    unittest.main()
