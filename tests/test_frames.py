import copy
import random
import unittest

import reference
import replysets
import trees
from callplans.bound import Bound, bound_by
from callplans.contracts import Contract
from callplans.errors import UnknownCall
from callplans.frames import Frame, framed
from callplans.outcomes import Outcomes, outcomes
from callplans.plans import Plan, plug
from callplans.times import Times
from checking import error_of
from holes import filled, with_hole
from replysets import made, outcomes_in, plan_of, some_bounds, some_sets, some_wanted, wide_sets
from sizes import chain, just_small, one_too_large
from values import any_values

NEVER = ("never",)
ONE = made([(1, 1)])
FOUR = made([(1, 1), (3, 3)], [(1, 1), (3, 3)])
FAR = 10**12
ALL = made([(0, FAR)], [(0, FAR)], True)
AT_HOLE = [(word, time) for word in ("ok", "fail") for time in range(15)] + [NEVER]


class Framed:
    """A tree with a hole and sets of replies, with all outcomes to which the outcomes of the hole lead."""

    def __init__(self, source, some, far=4):
        self.tree = source.choice(with_hole(some))
        self.plain = trees.written_out(filled(self.tree))
        names = trees.services(self.plain)
        self.hole = names.index("h")
        self.sets = some_sets(source, len(names) - 1, far)
        self.worlds = replysets.worlds(self.sets)
        self.frame = Frame(plan_of(self.tree), self.sets)
        self.told = (self.tree, [reference.as_set(some) for some in self.sets])

    def outcome(self, end, world):
        """Returns the outcome of the frame for an outcome of the hole in a world."""
        return reference.outcome_of_form(self.plain, iter(world[:self.hole] + [end] + world[self.hole:]))

    def leads(self, end):
        """Returns the set of the outcomes to which an outcome of the hole leads."""
        return {self.outcome(end, world) for world in self.worlds}


def some_frames(source, seed, many, calls, numbers=(0, 1, 2, 3, 5, 8), depth=4):
    """Returns a list of Framed."""
    return [Framed(source, some) for some in reference.some_trees(seed, many, calls, list(numbers), depth=depth)]


def plan(text):
    """Returns the plan of a text."""
    return Plan.parse(text)


class FrameTest(unittest.TestCase):
    def test_example(self):
        frame = Frame(plan("within 5 (hole then call db)"), [Outcomes(Times([(2, 3)]), Times([]), False)])
        wanted = Outcomes(Times([(0, 5)]), Times([]), False)
        found = frame.harmless(wanted, most=100)
        told = [found.ok.ranges, found.fail.ranges, found.never, frame.against(wanted, ("ok", 3)),
                frame(("ok", 3), [("ok", 3)])]
        self.assertEqual(told, [((0, 2),), (), False, [("ok", 3)], ("fail", 5)])

    def test_names_in_another_order(self):
        frame = Frame(replies=[ONE], surrounding=plan("(hole then call a)"))
        self.assertEqual(frame.surrounding, plan("(hole then call a)"))
        self.assertEqual(frame(world=[("ok", 1)], outcome=("ok", 4)), ("ok", 5))
        self.assertEqual(frame.harmless(most=9, wanted=made([(3, 4)])), made([(2, 3)]))
        self.assertEqual(frame.effects(given=made([(3, 4)])), made([(4, 5)]))
        self.assertEqual(frame.against(outcome=NEVER, wanted=made([(3, 4)])), [("ok", 1)])
        self.assertEqual(frame.around(inner=frame).surrounding, plan("((hole then call a) then call a)"))
        self.assertEqual(framed(number=0, bound=Bound(plan("call a"), [ONE])).surrounding, plan("hole"))
        with self.assertRaises(TypeError):
            frame.harmless(made(), 9)

    def test_errors(self):
        large, no_hole = "(" + one_too_large()[0] + " then hole)", one_too_large()[0]
        for text in ("call a", "(hole then hole)", "(hole then (hole both hole))", "within ? hole",
                     "(within ? call a then hole)", "retry 2 3 hole", "retry 1 0 hole", "retry 2 0 (call a then hole)",
                     "within 3 retry 2 0 within 2 hole", no_hole, f"({large} both hole)", f"retry 2 0 {large}",
                     f"within ? {large}"):
            for replies in ([], None, [ONE]):
                self.assertEqual(error_of(Frame, plan(text), replies), ("NoHole",), text)
        for text in one_too_large():
            for replies in ([], None, [ONE]):
                self.assertEqual(error_of(Frame, plan(f"({text} then hole)"), replies), ("TooLarge",), text)

    def test_small_with_the_hole(self):
        self.assertIsNone(error_of(Frame, plan("(hole then retry 8 0 call a)"), [ONE] * 8))
        self.assertIsNone(error_of(Frame, plan("within 1 " * 8 + "hole"), []))
        self.assertEqual(error_of(Frame, plan("within 1 " * 9 + "hole"), []), ("TooLarge",))
        self.assertIsNone(error_of(Frame, plan("within 1 " + chain(["hole"] + ["pause 0"] * 59)), []))
        self.assertEqual(error_of(Frame, plan(chain(["hole"] + ["pause 0"] * 60)), []), ("TooLarge",))

    def test_bad_replies(self):
        around = plan("(call a then (hole else call b))")
        self.assertEqual(error_of(Frame, around, ONE), ("BadReplies", 0))
        for value in any_values() + [(ONE, ONE), {0: ONE}, Times([(1, 2)]), plan("call a")]:
            if not isinstance(value, list):
                self.assertEqual(error_of(Frame, around, value), ("BadReplies", 0), value)
            self.assertEqual(error_of(Frame, around, [value, ONE]), ("BadReplies", 0), value)
            self.assertEqual(error_of(Frame, around, [ONE, value]), ("BadReplies", 1), value)
            self.assertEqual(error_of(Frame, around, [ONE, ONE, value]), ("BadReplies", 2), value)
        for value, number in [([], 0), ([ONE], 1), ([ONE] * 3, 2), ([made(), ONE], 0), ([ONE, made([(0, 1)])], 1),
                              ([ONE, made([(1, 1), (3, 3), (5, 5)])], 1)]:
            self.assertEqual(error_of(Frame, around, value), ("BadReplies", number))
        self.assertEqual(error_of(Frame, plan("(retry 5 0 call a then hole)"), [FOUR] * 5), ("BadReplies", 5))
        self.assertEqual(error_of(Frame, plan("hole"), [ONE]), ("BadReplies", 0))

    def test_replies(self):
        replies = [ONE, FOUR]
        frame = Frame(plan("(call a then (hole else call b))"), replies)
        replies.clear()
        self.assertEqual(frame.replies(), [ONE, FOUR])
        self.assertIs(type(frame.replies()), list)
        self.assertIsNot(frame.replies(), frame.replies())
        frame.replies().clear()
        self.assertEqual(frame.replies(), [ONE, FOUR])

    def test_called(self):
        source = random.Random(111)
        for made_up in some_frames(source, 112, 200, 3):
            for world in source.sample(made_up.worlds, min(6, len(made_up.worlds))):
                for end in source.sample(AT_HOLE, 8) + [("ok", 10**12), ("fail", 10**12)]:
                    kept = copy.deepcopy(world)
                    self.assertEqual(made_up.frame(end, world), made_up.outcome(end, world), made_up.told)
                    self.assertEqual(world, kept)

    def test_values_that_are_no_worlds(self):
        frame = Frame(plan("(call a then (hole else call b))"), [made([(1, 3)]), made([], [(4, 5)], True)])
        good = [("ok", 2), NEVER]
        self.assertEqual(frame(("ok", 3), good), ("ok", 5))
        for value in any_values() + [tuple(good), {0: good[0]}]:
            if not isinstance(value, list):
                self.assertEqual(error_of(frame, ("ok", 3), value), ("BadWorld", 0))
        for value in any_values() + [("ok", 4), ("fail", 2), ["ok", 2], ("ok", True), ("ok", 0)]:
            for world, number in [([value], 0), ([value, NEVER], 0), ([good[0], value], 1), (good + [value], 2)]:
                self.assertEqual(error_of(frame, ("ok", 3), world), ("BadWorld", number), world)
        for world, number in [([], 0), (good[:1], 1), (good + good, 2)]:
            self.assertEqual(error_of(frame, NEVER, world), ("BadWorld", number))
        self.assertEqual(error_of(Frame(plan("hole"), []), NEVER, [NEVER]), ("BadWorld", 0))

    def test_without_calls(self):
        frame = Frame(plan("within 5 (pause 2 then hole)"), [])
        self.assertEqual([frame(end, []) for end in [("ok", 3), ("ok", 4), ("fail", 0), NEVER]],
                         [("ok", 5), ("fail", 5), ("fail", 2), ("fail", 5)])
        self.assertEqual(frame.harmless(made([(0, 5)]), most=FAR), made([(0, 3)]))
        self.assertEqual(frame.against(made([(0, 5)]), ("ok", 4)), [])
        self.assertIsNone(frame.against(made([(0, 5)]), ("ok", 3)))
        self.assertEqual(frame.effects(ALL), made([(2, 5)], [(2, 5)]))


class HarmlessTest(unittest.TestCase):
    def check_against(self, made_up, wanted, end, harmless):
        world = made_up.frame.against(wanted, end)
        if harmless:
            self.assertIsNone(world, made_up.told)
            return
        self.assertIs(type(world), list)
        self.assertIn(world, made_up.worlds, made_up.told)
        self.assertNotIn(made_up.outcome(end, world), wanted, made_up.told)

    def test_against_all_worlds(self):
        source = random.Random(113)
        for made_up in some_frames(source, 114, 200, 3):
            leads = {end: made_up.leads(end) for end in AT_HOLE}
            for wanted in [some_wanted(source) for _ in range(6)] + [made(), ALL, made([], [], True)]:
                most = source.choice([14, 14, 14, 6, 1, 0])
                harmless = {end for end in AT_HOLE if all(outcome in wanted for outcome in leads[end])}
                found = made_up.frame.harmless(wanted, most=most)
                near = {end for end in harmless if end == NEVER or end[1] <= most}
                self.assertEqual(reference.as_set(found), near, (made_up.told, wanted.ok.ranges, wanted.fail.ranges))
                for end in source.sample(AT_HOLE, 4):
                    self.check_against(made_up, wanted, end, end in harmless)

    def test_effects_against_all_worlds(self):
        source = random.Random(115)
        for made_up in some_frames(source, 116, 250, 3):
            leads = {end: made_up.leads(end) for end in AT_HOLE}
            for _ in range(5):
                given = source.sample(AT_HOLE, source.choice([0, 1, 1, 2, 3, 9]))
                found = made_up.frame.effects(outcomes_in(given))
                self.assertEqual(found, outcomes_in(set().union(*[leads[end] for end in given])), made_up.told)
                # The effects are wanted exactly if all that was given is harmless.
                wanted = source.choice([some_wanted(source), found])
                harmless = made_up.frame.harmless(wanted, most=20)
                self.assertEqual(found.is_within(wanted), outcomes_in(given).is_within(harmless))

    def test_more_replies_and_greater_sets(self):
        source = random.Random(117)
        for made_up in some_frames(source, 118, 150, 3):
            few = Frame(made_up.frame.surrounding, [replysets.part_of(source, some) for some in made_up.sets])
            wanted, more = some_wanted(source), some_wanted(source)
            greater = Outcomes(wanted.ok | more.ok, wanted.fail | more.fail, wanted.never or more.never)
            harmless = made_up.frame.harmless(wanted, most=30)
            self.assertTrue(harmless.is_within(few.harmless(wanted, most=30)), made_up.told)
            self.assertTrue(harmless.is_within(made_up.frame.harmless(greater, most=30)), made_up.told)

    def test_great_bounds(self):
        frame = Frame(plan("hole"), [])
        wanted = made([(5, FAR)], [(0, 3), (FAR, FAR)], True)
        self.assertEqual(frame.harmless(wanted, most=FAR), wanted)
        self.assertEqual(frame.harmless(wanted, most=FAR - 1), made([(5, FAR - 1)], [(0, 3)], True))
        self.assertEqual(frame.harmless(wanted, most=0), made([], [(0, 0)], True))
        self.assertEqual(frame.harmless(made(), most=FAR), made())
        self.assertEqual(frame.effects(wanted), wanted)
        frame = Frame(plan("(hole else call a)"), [made([(1, 10**6)])])
        wanted = made([(0, FAR)])
        self.assertEqual(frame.harmless(wanted, most=FAR), made([(0, FAR)], [(0, FAR - 10**6)]))
        self.assertIsNone(frame.against(wanted, ("fail", FAR - 10**6)))
        self.assertIsNotNone(frame.against(wanted, ("fail", FAR - 10**6 + 1)))
        self.assertEqual(frame.effects(made([], [(FAR, FAR)])), made([(FAR + 1, FAR + 10**6)]))
        frame = Frame(plan("within 1000000000 (pause 1000000000 then hole)"), [])
        self.assertEqual(frame.harmless(made([(10**9, 10**9)]), most=FAR), made([(0, 0)]))
        self.assertEqual(frame.harmless(made([], [(10**9, 10**9)]), most=FAR),
                         made([(1, FAR)], [(0, FAR)], True))

    def test_never_alone(self):
        for text, end, world in [("(call a both hole)", ("ok", 3), [NEVER]), ("(hole then call a)", ("ok", 0), [NEVER])]:
            frame = Frame(plan(text), [made([(1, 4)], [], True)])
            self.assertEqual(frame.against(made([(0, 99)], [(0, 99)]), end), world)
            self.assertEqual(frame.harmless(made([], [], True), most=50), made([], [], True))

    def test_of_a_whole_plan(self):
        # All outcomes of the whole are wanted exactly if all outcomes of the plan within it are harmless.
        contracts = {"a": Contract(ok=(1, 3), fail=(2, 4)), "b": Contract(ok=(2, 2), hang=True), "c": Contract(fail=(1, 2))}
        source, wanted_all = random.Random(119), 0
        inner = reference.some_trees(120, 120, 3, [0, 1, 2, 3], depth=3)
        for number, some in enumerate(reference.some_trees(121, 120, 3, [0, 1, 2, 5], depth=3)):
            around = plan_of(source.choice(with_hole(some)))
            frame = Frame(around, bound_by(plug(around, plan("pause 0")), contracts).replies())
            whole = outcomes(plug(around, plan_of(inner[number])), contracts)
            part = outcomes(plan_of(inner[number]), contracts)
            for wanted in (some_wanted(source), whole, Outcomes(whole.ok, Times([]), whole.never)):
                harmless = frame.harmless(wanted, most=FAR)
                wanted_all += whole.is_within(wanted)
                self.assertEqual(whole.is_within(wanted), part.is_within(harmless), str(around))
            self.assertEqual(frame.effects(part), whole)
        self.assertGreater(wanted_all, 120)


class AroundTest(unittest.TestCase):
    def test_against_both_frames(self):
        source = random.Random(122)
        inner = some_frames(source, 123, 120, 2, depth=3)
        for number, outer in enumerate(some_frames(source, 124, 120, 2, depth=3)):
            within = inner[number].frame
            both = outer.frame.around(within)
            self.assertEqual(both.surrounding, plug(outer.frame.surrounding, within.surrounding))
            ahead = outer.hole
            self.assertEqual(both.replies(), outer.sets[:ahead] + within.replies() + outer.sets[ahead:])
            for wanted in (some_wanted(source), some_wanted(source)):
                through = within.harmless(outer.frame.harmless(wanted, most=200), most=50)
                self.assertEqual(both.harmless(wanted, most=50), through, (outer.told, inner[number].told))
            given = outcomes_in(source.sample(AT_HOLE, 3))
            self.assertEqual(both.effects(given), outer.frame.effects(within.effects(given)))
            one, two = source.choice(outer.worlds), source.choice(inner[number].worlds)
            for end in source.sample(AT_HOLE, 5):
                wanted = outer.frame(within(end, two), one)
                self.assertEqual(both(end, one[:ahead] + two + one[ahead:]), wanted)

    def test_errors(self):
        few = Frame(plan("(retry 4 0 call a then hole)"), [ONE] * 4)
        many = Frame(plan("(retry 5 0 call a then hole)"), [ONE] * 5)
        self.assertEqual(error_of(few.around, many), ("TooLarge",))
        self.assertEqual(len(few.around(few).replies()), 8)
        four = Frame(plan("(retry 4 0 call a then hole)"), [FOUR] * 4)
        self.assertEqual(error_of(four.around, few), ("BadReplies", 8))
        self.assertEqual(error_of(few.around, four), ("BadReplies", 8))
        five = Frame(plan("(retry 5 0 call a then hole)"), [FOUR] * 4 + [made([], [], True)])
        self.assertEqual(error_of(five.around, four), ("TooLarge",))
        self.assertEqual(few.replies(), [ONE] * 4)
        withins = Frame(plan("within 3 " * 5 + "hole"), [])
        self.assertEqual(error_of(withins.around, withins), ("TooLarge",))

    def test_keeps_retries(self):
        outer = Frame(plan("((retry 2 3 call a then hole) else call b)"), [ONE, FOUR, ONE])
        inner = Frame(plan("(call c both (hole else retry 2 0 call d))"), [FOUR, ONE, ONE])
        found = outer.around(inner)
        self.assertEqual(str(found.surrounding),
                         "((retry 2 3 call a then (call c both (hole else retry 2 0 call d))) else call b)")
        self.assertEqual(found.replies(), [ONE, FOUR, FOUR, ONE, ONE, ONE])


class FramedTest(unittest.TestCase):
    def test_against_all_worlds(self):
        source = random.Random(125)
        for tree, bound in some_bounds(source, 126, 120, 4, depth=4):
            plain = trees.written_out(tree)
            for number in range(len(bound)):
                frame = framed(bound, number)
                others = bound.replies()[:number] + bound.replies()[number + 1:]
                self.assertEqual(frame.replies(), others)
                for end in source.sample(AT_HOLE, 4):
                    world = source.choice(replysets.worlds(others))
                    outcome = reference.outcome_of_form(plain, iter(world[:number] + [end] + world[number:]))
                    self.assertEqual(frame(end, world), outcome, (tree, number))
                self.assertEqual(frame.effects(bound[number]), bound.outcomes())

    def test_written_out(self):
        bound = Bound(plan("retry 2 3 (call a then call b)"), [ONE, FOUR, ONE, FOUR])
        texts = ["((hole then call b) else (pause 3 then (call a then call b)))",
                 "((call a then hole) else (pause 3 then (call a then call b)))",
                 "((call a then call b) else (pause 3 then (hole then call b)))",
                 "((call a then call b) else (pause 3 then (call a then hole)))"]
        self.assertEqual([str(framed(bound, number).surrounding) for number in range(4)], texts)
        self.assertEqual(framed(bound, 1).replies(), [ONE, ONE, FOUR])

    def test_unknown_calls(self):
        bound = Bound(plan("(call a then call b)"), [ONE, FOUR])
        for value in any_values() + [2, -1, [0], (1,), "1", 10**20]:
            if isinstance(value, int) and not isinstance(value, bool) and value in (0, 1):
                continue
            with self.assertRaises(UnknownCall) as caught:
                framed(bound, value)
            self.assertIs(caught.exception.number, value)
        self.assertEqual(error_of(framed, Bound(plan("fail"), []), 0), ("UnknownCall", 0))


class GreatTest(unittest.TestCase):
    def test_great_plans(self):
        wanted = made([(0, 10**9)], [], False)
        for text in just_small():
            bound = bound_by(plan(text), {"a": Contract(ok=(1, 10**6), fail=(1, 10**6), hang=True)})
            for number in range(len(bound)):
                frame = framed(bound, number)
                harmless = frame.harmless(wanted, most=FAR)
                self.assertTrue(frame.effects(harmless).is_within(wanted))
                for end in [("ok", 10**6), ("fail", 1), NEVER, ("ok", FAR)]:
                    world = frame.against(wanted, end)
                    self.assertEqual(world is None, end in harmless)
                    if world is not None:
                        self.assertNotIn(frame(end, world), wanted)

    def test_ends_of_ranges_and_beside_them(self):
        source, both = random.Random(127), set()
        numbers = [0, 1, 1000, 400000, 10**6, 1500000, 10**9]
        for tree in reference.some_trees(128, 60, 8, numbers, depth=5):
            bound = Bound(plan_of(tree), replysets.great_sets(source, len(trees.services(tree))))
            found = bound.outcomes()
            near = sorted(replysets.ends_and_beside(found.ok) + replysets.ends_and_beside(found.fail) + [0, 10**9])
            spans = [tuple(sorted(source.choices(near, k=2))) for _ in range(4)]
            wanted = made(spans[:source.randint(0, 2)], spans[source.randint(2, 4):], source.random() < 0.4)
            for number in range(len(bound)):
                frame, most = framed(bound, number), source.choice([FAR, 10**9, 10**6])
                harmless = frame.harmless(wanted, most=most)
                ends = [("ok", time) for time in replysets.ends_and_beside(harmless.ok)]
                ends += [("fail", time) for time in replysets.ends_and_beside(harmless.fail)] + [NEVER]
                for end in [end for end in ends if end == NEVER or end[1] <= most]:
                    is_harmless = frame.effects(outcomes_in([end])).is_within(wanted)
                    self.assertEqual(end in harmless, is_harmless, (tree, number, end))
                    world = frame.against(wanted, end)
                    self.assertEqual(world is None, is_harmless)
                    self.assertTrue(world is None or frame(end, world) not in wanted)
                    both.add(is_harmless)
        self.assertEqual(both, {True, False})

    def test_great_numbers(self):
        frame = Frame(plan("((hole else (pause 1000000000 then call a)) then (call b both retry 2 1000000000 call c))"),
                      wide_sets(4, ("ok",)))
        # The retry ends at its first try, since no call fails.
        found = frame.harmless(made([(0, 2 * 10**9)]), most=FAR)
        self.assertEqual(found, made([(0, 2 * 10**9 - 10**6)], [(0, 10**9 - 2 * 10**6)]))
        self.assertEqual(frame.effects(made([(0, 0)])), made([(1, 10**6)]))

    def test_many_ranges(self):
        halves = [made([(1, 1), (10**number, 10**number)]) for number in range(7)]
        frame = Frame(plan("(" * 7 + "hole" + " then call a)" * 7), halves)
        wanted = made([(time, time + 3) for time in range(0, 2000, 7)])
        found = frame.harmless(wanted, most=3000)
        self.assertTrue(frame.effects(found).is_within(wanted))
        self.assertEqual(len(frame.effects(made([(0, 0)])).ok.ranges), 2**6)


if __name__ == "__main__":
    unittest.main()
