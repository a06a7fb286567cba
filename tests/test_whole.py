"""What the document promises over the whole program: nothing that is asked, handed in or told changes anything else."""

import copy
import unittest

from callplans import bound, contracts, counts, frames, outcomes, plans, reasons, registry, runs, shares, standing
from callplans import timeouts, times, watches, worlds
from callplans.errors import PlanError
from replysets import made

NEVER = ("never",)
DB = contracts.Contract(ok=(2, 4), fail=(1, 1))
WEB = contracts.Contract(ok=(3, 3), hang=True)
SERVICES = {"db": DB, "web": WEB}


def plan(text):
    """Returns the plan of a text."""
    return plans.Plan.parse(text)


def state_of(value):
    """Returns all that a value consists of, as nested tuples, lists and dicts."""
    if isinstance(value, (list, tuple)):
        return [type(value).__name__, *[state_of(part) for part in value]]
    if isinstance(value, dict):
        return {key: state_of(part) for key, part in value.items()}
    if hasattr(value, "__dict__"):
        return [type(value).__name__, {name: state_of(part) for name, part in vars(value).items()}]
    return value


def lists_in(value):
    """Returns the list of all lists and dicts in a told value."""
    parts = list(value.values()) if isinstance(value, dict) else value if isinstance(value, (list, tuple)) else []
    own = [value] if isinstance(value, (list, dict)) else []
    return own + [inner for part in parts for inner in lists_in(part)]


class World:
    """Objects of all kinds, and questions about them: lists of a function or method and its arguments."""

    def __init__(self):
        self.plan = plan("retry 2 1 (call db then within 5 call web)")
        self.other = plan("(call db both call web)")
        self.around = plan("within 9 (hole else call db)")
        self.marked = plan("(within ? call db else call web)")
        self.contracts = dict(SERVICES)
        self.world = [("ok", 2), NEVER, ("fail", 1), ("ok", 3)]
        self.wanted = made([(0, 6)], [(0, 2)])
        self.sets = [made([(1, 3)], [(2, 2)]), made([(2, 4)], [], True)]
        self.run = runs.Run(self.plan)
        self.run.close(2, [(0, "ok")])
        self.registry = registry.Registry()
        self.registry.change(contracts=self.contracts, plans={"p": plan("within 7 call web")}, promises={"p": 7})
        self.registry.begin("p")
        self.registry.close(0, 2, [])
        self.bound = bound.Bound(self.other, self.sets)
        self.single = self.bound.at([("ok", 2), NEVER])
        self.frame = frames.Frame(self.around, [self.sets[0]])
        self.counts = counts.Counts(self.bound)
        self.watch = watches.Watch(self.run, self.contracts, self.wanted)
        self.replies = [(0, "ok")]
        self.calls = [0, 1, 0]

    def questions(self):
        """Returns questions that are answered, and change nothing."""
        first, second = self.sets
        return [
            (times.Times, [(3, 4), (1, 1)]), (first.ok.up_to, 2), (first.ok.since, 2), (first.ok.is_within, second.ok),
            (str, self.plan), (self.plan.calls,), (self.plan.size,), (plans.plug, self.around, self.plan),
            (DB.allows, ("ok", 3)), (worlds.outcome_in, self.plan, self.world),
            (worlds.is_allowed, self.plan, self.contracts, self.world),
            (outcomes.outcomes, self.plan, self.contracts), (first.is_within, second), (first.worst,),
            (outcomes.world_for, self.plan, self.contracts, ("ok", 5)),
            (standing.surrounding_for, self.plan, self.other, self.contracts),
            (standing.is_later, self.around, self.plan, self.other, self.contracts),
            (timeouts.good_numbers, self.marked, self.contracts, 9),
            (self.run.outcome,), (self.run.waiting,), (self.run.record,), (self.run.possible, self.contracts),
            (self.registry.worst, "p"), (self.registry.deadline, "p"), (self.registry.outcome, 0),
            (self.registry.possible, 0), (self.registry.bindings, 0),
            (bound.Bound, self.other, self.sets), (len, self.bound), (self.bound.__getitem__, 1),
            (self.bound.replies,), (self.bound.outcomes,), (self.bound.worlds,), (self.bound.with_replies, 0, second),
            (self.bound.is_world, [("ok", 2), NEVER]), (self.bound.at, [("ok", 2), NEVER]),
            (bound.bound_by, self.plan, self.contracts), (bound.bound_of, self.run, self.contracts),
            (bound.bound_in, self.registry, 0),
            (frames.Frame, self.around, [first]), (self.frame, ("fail", 2), [("ok", 3)]), (self.frame.replies,),
            (self.frame.effects, self.wanted), (self.frame.against, self.wanted, NEVER),
            (lambda: self.frame.harmless(self.wanted, most=50),), (self.frame.around, self.frame),
            (frames.framed, self.bound, 1),
            (reasons.settled, self.bound, self.wanted), (reasons.reasons, self.bound, self.single, self.wanted),
            (reasons.changes, self.bound, self.single, self.wanted),
            (reasons.world_ending, self.bound, self.wanted),
            (reasons.changed_world, self.bound, self.single, self.wanted, self.calls),
            (counts.Counts, self.bound), (self.counts.all_worlds,), (self.counts.endless,), (self.counts.ok_by, 3),
            (self.counts.fail_by, 3), (self.counts.within, self.wanted),
            (shares.share_of, self.bound, self.wanted), (shares.time_for, self.bound, (1, 3)),
            (watches.Watch, self.run, self.contracts, self.wanted), (self.watch.state,), (self.watch.sure, 1),
            (self.watch.hopeful, 1),
        ]

    def refused(self):
        """Returns questions that are refused, also changes."""
        gone = {"db": DB}
        return [
            (times.Times, [(3, 1)]), (plans.Plan.parse, "call"), (plans.plug, self.plan, self.plan),
            (worlds.outcome_in, self.plan, self.world[:2]), (worlds.outcome_in, self.around, self.world),
            (worlds.is_allowed, self.plan, gone, self.world), (outcomes.outcomes, self.plan, gone),
            (outcomes.world_for, self.plan, self.contracts, ("ok", 99)),
            (standing.surrounding_for, self.plan, self.around, self.contracts),
            (timeouts.good_numbers, self.plan, self.contracts, 9),
            (runs.Run, self.around), (self.run.close, 2, self.replies), (self.run.close, 3, self.replies),
            (self.run.close, 3, [(1, "ok"), (1, "ok")]), (self.run.possible, gone),
            (lambda: self.registry.change(contracts={"web": DB}, plans={"q": self.around}),),
            (lambda: self.registry.change(contracts={"x": DB}, promises={"p": 3}),),
            (lambda: self.registry.change(plans={"p": plan("call web")}, promises={"p": None, "r": 2}),),
            (lambda: self.registry.change(plans={"p": plan("call web")}),),
            (self.registry.worst, "q"), (self.registry.begin, "q"), (self.registry.close, 0, 1, self.replies),
            (self.registry.close, 0, 8, self.replies), (self.registry.bindings, 1),
            (bound.Bound, self.other, self.sets[:1]), (bound.Bound, self.around, self.sets),
            (self.bound.__getitem__, 2), (self.bound.with_replies, 0, None), (self.bound.at, self.world),
            (bound.bound_by, self.plan, gone), (bound.bound_of, self.run, gone), (bound.bound_in, self.registry, 4),
            (frames.Frame, self.plan, self.sets), (frames.Frame, self.around, self.sets),
            (self.frame, NEVER, self.world), (frames.framed, self.bound, 2),
            (reasons.reasons, self.single, self.bound, self.wanted), (reasons.changes, self.bound, self.bound, self.wanted),
            (reasons.changed_world, self.bound, self.single, self.wanted, [0, 5]),
            (shares.time_for, self.bound, (2, 4)), (watches.Watch, self.run, gone, self.wanted),
            (self.watch.sure, 0), (self.watch.hopeful, None), (self.watch.blame,),
        ]


def told_by(ask, *given):
    """Returns what a question tells: its result, or its error."""
    try:
        return ["told", ask(*given)]
    except PlanError as error:
        return ["refused", type(error).__name__, vars(error)]


class WholeTest(unittest.TestCase):
    def test_questions_change_nothing(self):
        world = World()
        before = state_of(world)
        for number in range(len(world.questions())):
            ask, *given = world.questions()[number]
            kept = state_of(given)
            first = told_by(ask, *given)
            self.assertEqual(first[0], "told", number)
            self.assertEqual(state_of(given), kept, number)
            self.assertEqual(state_of(world), before, number)
            ask, *given = world.questions()[number]
            self.assertEqual(state_of(told_by(ask, *given)), state_of(first), number)

    def test_what_is_refused_is_refused_again(self):
        world = World()
        before = state_of(world)
        for number in range(len(world.refused())):
            found = []
            for _ in range(2):
                ask, *given = world.refused()[number]
                kept = state_of(given)
                found.append(told_by(ask, *given))
                self.assertEqual(found[-1][0], "refused", number)
                self.assertEqual(state_of(given), kept, number)
                self.assertEqual(state_of(world), before, number)
            self.assertEqual(state_of(found[0]), state_of(found[1]))

    def test_told_lists_are_new(self):
        world = World()
        for number in range(len(world.questions())):
            before = state_of(world)
            ask, *given = world.questions()[number]
            one, other = told_by(ask, *given)[1], told_by(ask, *given)[1]
            lists = lists_in(one) + lists_in(other)
            self.assertEqual(len({id(found) for found in lists}), len(lists), number)
            handed = [id(found) for found in lists_in(given)]
            for found in lists:
                self.assertNotIn(id(found), handed)
                found.clear()
            self.assertEqual(state_of(world), before, number)
            self.assertEqual(state_of(told_by(ask, *given)[1]), state_of(told_by(ask, *given)[1]))

    def test_what_is_handed_in_may_change_later(self):
        world = World()
        later = [question for question in world.questions() if hasattr(question[0], "__self__")]
        kept = [state_of(told_by(*question)) for question in later]
        for given in (world.contracts, world.sets, world.calls, world.replies):
            given.clear()
        world.contracts.update(SERVICES)
        self.assertEqual([state_of(told_by(*question)) for question in later], kept)

    def test_methods_without_results(self):
        world = World()
        self.assertIsNone(world.run.close(3, []))
        self.assertIsNone(world.registry.change(contracts={"db": DB}))
        self.assertIsNone(world.registry.close(0, 3, []))

    def test_the_order_of_keys(self):
        forward, backward = dict(SERVICES), dict(reversed(list(SERVICES.items())))
        for text in ("retry 2 1 (call db then within 5 call web)", "(call web either call db)"):
            told = [[outcomes.outcomes(plan(text), given), bound.bound_by(plan(text), given)]
                    for given in (forward, backward)]
            self.assertEqual(told[0], told[1])
        changes = []
        for given in (forward, backward):
            kept = registry.Registry()
            kept.change(contracts=given, plans={"p": plan("call db"), "q": plan("call web")})
            promises = {"q": 3, "p": 3} if given is forward else {"p": 3, "q": 3}
            changes.append(told_by(lambda: kept.change(promises=promises)))
        self.assertEqual(state_of(changes[0]), state_of(changes[1]))
        self.assertEqual(changes[0][2]["name"], "p")

    def test_copies_stay_equal(self):
        world = World()
        for value in (world.plan, world.wanted, world.bound, DB, made([(1, 2)]).ok):
            self.assertEqual(copy.deepcopy(value), value)


if __name__ == "__main__":
    unittest.main()
