import itertools
import random
import unittest

import reference
import stepping
import trees
from callplans.contracts import Contract
from callplans.outcomes import Outcomes, outcomes
from callplans.plans import Plan
from callplans.registry import Registry
from callplans.runs import Run
from callplans.times import Times
from checking import error_of
from sizes import just_small, one_too_large

NEVER = ("never",)
NUMBERS = [0, 0, 1, 2, 3, 5]


def plan_of(tree):
    """Returns the plan of a tree."""
    return Plan.parse(trees.text_of(tree))


def is_late(outcome, deadline):
    """Tells whether an outcome comes later than a deadline."""
    return outcome == NEVER or outcome[1] > deadline


def has_hole(tree):
    """Tells whether a tree has a hole or a mark."""
    return any(form[0] == "hole" or form[:2] == ("within", "?") for form in trees.all_forms(tree))


class KeptModel:
    """A run that is kept, read time by time, with all worlds that agree with it."""

    def __init__(self, tree, deadline, contracts):
        self.tree, self.deadline, self.bound = tree, deadline, {}
        self.stepper = stepping.Stepper(tree)
        self.bind(contracts)

    def bind(self, contracts):
        for number, (item, name) in enumerate(zip(self.stepper.record(), trees.services(self.tree))):
            if item is not None:
                self.bound.setdefault(number, contracts[name])

    def sets(self, contracts):
        names = trees.services(self.tree)
        return [[reply for reply in reference.replies(self.bound.get(number, contracts[name]))
                 if stepping.agrees(reply, item, self.stepper.time)]
                for number, (item, name) in enumerate(zip(self.stepper.record(), names))]

    def broken(self, contracts):
        """Returns the number of the first call that has broken its contract, or None."""
        return next((number for number, some in enumerate(self.sets(contracts)) if not some), None)

    def outcomes(self, contracts):
        return {reference.outcome(self.tree, world) for world in itertools.product(*self.sets(contracts))}


class Model:
    """A registry by the words of the document."""

    def __init__(self):
        self.contracts, self.plans, self.promises, self.runs = {}, {}, {}, []

    def change(self, contracts, plans, promises):
        """Makes changes, and returns the error that is to be raised, without its world."""
        made = ({**self.contracts, **contracts}, {**self.plans, **plans}, {**self.promises, **promises})
        error = self.error(*made, plans, promises)
        if error is None:
            self.contracts, self.plans, self.promises = made
        return error

    def error(self, contracts, all_plans, all_promises, plans, promises):
        for name in sorted(promises):
            if name not in all_plans:
                return ("UnknownName", name)
        for name in sorted(plans):
            if has_hole(plans[name]):
                return ("HasHole",)
            for service in trees.services(plans[name]):
                if service not in contracts:
                    return ("UnknownService", service)
            if not reference.is_small(plans[name]):
                return ("TooLarge",)
        for name in sorted(all_promises):
            deadline = all_promises[name]
            found = reference.outcomes(all_plans[name], contracts)
            if deadline is not None and any(is_late(outcome, deadline) for outcome in found):
                return ("PromiseBroken", name)
        for number, kept in enumerate(self.runs):
            if kept.deadline is not None and kept.stepper.outcome() is None and kept.broken(contracts) is None:
                if any(is_late(outcome, kept.deadline) for outcome in kept.outcomes(contracts)):
                    return ("RunLate", number)
        return None

    def begin(self, name):
        self.runs.append(KeptModel(self.plans[name], self.promises.get(name), self.contracts))


def some_contract(source, far=3):
    """Returns a contract with few replies; source is a random.Random."""
    ranges = []
    for _ in range(2):
        low = source.randint(1, far)
        ranges.append(None if source.random() < 0.4 else (low, low + source.choice([0, 0, 1, 2])))
    return Contract(ok=ranges[0], fail=ranges[1], hang=source.random() < 0.06 or ranges == [None, None])


class HistoryTest(unittest.TestCase):
    """Registries against a model, in histories of changes, runs and replies."""

    def compare(self, registry, model, told):
        for name in [*model.plans, "other"]:
            if name not in model.plans:
                self.assertEqual(error_of(registry.worst, name), ("UnknownName", name))
                continue
            found = reference.outcomes(model.plans[name], model.contracts)
            self.assertEqual(registry.worst(name), reference.worst(found), told)
            self.assertEqual(registry.deadline(name), model.promises.get(name), told)
        for number, kept in enumerate(model.runs):
            self.assertEqual(registry.outcome(number), kept.stepper.outcome(), told)
            broken = kept.broken(model.contracts)
            if broken is not None:
                self.assertEqual(error_of(registry.possible, number), ("Broken", broken), told)
                self.assertEqual(error_of(registry.bindings, number), ("Broken", broken), told)
                continue
            self.assertEqual(reference.as_set(registry.possible(number)), kept.outcomes(model.contracts), told)
            plan, replies = registry.bindings(number)
            self.assertEqual(plan, plan_of(kept.tree))
            sets = [set(some) for some in kept.sets(model.contracts)]
            self.assertEqual([reference.as_set(some) for some in replies], sets, told)

    def check_world(self, model, error, contracts, plans, promises):
        """Checks the world that is told of a change which is refused."""
        word, name, world = error
        self.assertIs(type(world), list)
        contracts = {**model.contracts, **contracts}
        if word == "PromiseBroken":
            tree, deadline = {**model.plans, **plans}[name], {**model.promises, **promises}[name]
            sets = [reference.replies(contracts[service]) for service in trees.services(tree)]
        else:
            kept = model.runs[name]
            tree, deadline, sets = kept.tree, kept.deadline, kept.sets(contracts)
        self.assertEqual(len(world), len(sets))
        self.assertTrue(all(reply in some for reply, some in zip(world, sets)))
        self.assertTrue(is_late(reference.outcome(tree, world), deadline))

    def change(self, registry, model, contracts, plans, promises):
        """Makes a change, and returns the name of its error, or None."""
        given = {"contracts": contracts, "plans": {name: plan_of(plans[name]) for name in plans}, "promises": promises}
        given = {word: value for word, value in given.items() if value or word == "plans"}
        error = error_of(registry.change, **given)
        if error is not None and error[0] in ("PromiseBroken", "RunLate"):
            self.check_world(model, error, contracts, plans, promises)
        self.assertEqual(error[:2] if error else None, model.change(contracts, plans, promises), given)
        return error[0] if error else None

    def some_change(self, source, model, some):
        """Returns contracts, plans and promises to change."""
        if source.random() < 0.4:
            # With no promises left, only the runs are in the way of new contracts.
            return {source.choice("abc"): some_contract(source)}, {}, {name: None for name in model.promises}
        contracts = {name: some_contract(source) for name in "abc" if source.random() < 0.25}
        plans = {name: source.choice(some) for name in ("p", "q", "a") if source.random() < 0.15}
        promises = {}
        for name in ("a", "p", "q", "x"):
            tree = {**model.plans, **plans}.get(name)
            if source.random() < (0.4 if tree else 0.05):
                worst = reference.worst(reference.outcomes(tree, {**model.contracts, **contracts})) if tree else 3
                promises[name] = source.choice([None, (worst or 0) + source.choice([-1, 0, 0, 0, 1, 2])])
                if promises[name] is not None and promises[name] < 0:
                    promises[name] = 0
        return contracts, plans, promises

    def close_some(self, source, registry, model, keeps):
        """Closes times of one of the runs, with replies that keep their contracts if keeps is True."""
        number = source.randrange(len(model.runs))
        kept = model.runs[number]
        time, replies = kept.stepper.time + source.choice([1, 1, 1, 2]), []
        kept.stepper.close(time - 1, [])
        for call, start in kept.stepper.waiting():
            contract = kept.bound.get(call, model.contracts[trees.services(kept.tree)[call]])
            allowed = [word for word in ("ok", "fail") if contract.allows((word, time - start))]
            last = not contract.hang and not any(contract.allows((word, later)) for word in ("ok", "fail")
                                                 for later in range(time - start + 1, 12))
            if allowed and (last or source.random() < 0.4):
                replies.append((call, source.choice(allowed)))
        if not keeps and source.random() < 0.2:
            replies = [(call, "ok") for call, _ in kept.stepper.waiting()]
        registry.close(number, time, replies)
        kept.stepper.close(time, replies)
        kept.bind(model.contracts)

    def run_history(self, source, some, keeps):
        registry, model, found = Registry(), Model(), []
        contracts = {name: some_contract(source) for name in "abc"}
        found.append(self.change(registry, model, contracts, {"p": some[0], "q": some[1]}, {}))
        for step in range(20):
            if step % 6 == 0:
                worst = {name: reference.worst(reference.outcomes(model.plans[name], model.contracts))
                         for name in model.plans}
                found.append(self.change(registry, model, {}, {}, worst))
            what = source.random()
            if what < 0.4:
                found.append(self.change(registry, model, *self.some_change(source, model, some)))
            elif what < 0.65 and model.plans:
                promised = [name for name in sorted(model.plans) if model.promises.get(name) is not None]
                name = source.choice(promised or sorted(model.plans))
                self.assertEqual(registry.begin(name), len(model.runs))
                model.begin(name)
            elif model.runs:
                self.close_some(source, registry, model, keeps)
            self.compare(registry, model, step)
        return model, found

    def test_histories(self):
        source = random.Random(91)
        trees_to_take = [tree for tree in reference.some_trees(92, 900, 3, NUMBERS, depth=4)
                         if len(trees.services(tree)) > 1]
        found = []
        for _ in range(150):
            found += self.run_history(source, source.sample(trees_to_take, 6), False)[1]
        for kind in (None, "PromiseBroken", "RunLate", "UnknownName"):
            self.assertGreater(found.count(kind), 10, kind)

    def test_runs_whose_replies_keep_their_contracts_end_in_time(self):
        source = random.Random(93)
        trees_to_take = reference.some_trees(94, 400, 3, NUMBERS, depth=4)
        ended = 0
        for _ in range(80):
            model = self.run_history(source, source.sample(trees_to_take, 6), True)[0]
            for kept in model.runs:
                outcome = kept.stepper.outcome()
                if kept.deadline is not None and kept.broken(model.contracts) is None:
                    self.assertTrue(outcome is not None or kept.stepper.time < kept.deadline)
                    if outcome is not None:
                        ended += 1
                        self.assertLessEqual(outcome[1], kept.deadline)
        self.assertGreater(ended, 40)


def both():
    """Returns the registry of the example."""
    registry = Registry()
    registry.change(contracts={"s": Contract(ok=(1, 8)), "t": Contract(ok=(1, 2))},
                    plans={"both": Plan.parse("(call s then call t)")}, promises={"both": 10})
    return registry


class ChangeTest(unittest.TestCase):
    def refuse(self, registry, wanted, **changes):
        for _ in range(2):
            self.assertEqual(error_of(registry.change, **changes), wanted)

    def test_example(self):
        registry = both()
        found = error_of(registry.change, contracts={"t": Contract(ok=(1, 3))})
        self.assertEqual(found, ("PromiseBroken", "both", [("ok", 8), ("ok", 3)]))
        self.assertEqual([registry.worst("both"), registry.deadline("both")], [10, 10])

    def test_each_argument_alone(self):
        registry = Registry()
        self.assertIsNone(registry.change())
        self.assertIsNone(registry.change(contracts={}, plans={}, promises={}))
        self.assertIsNone(registry.change(contracts=None, plans=None, promises=None))
        self.assertIsNone(registry.change(contracts={"a": Contract(ok=(1, 4))}))
        self.assertIsNone(registry.change(plans={"p": Plan.parse("call a")}))
        self.assertEqual((registry.worst("p"), registry.deadline("p")), (4, None))
        self.assertIsNone(registry.change(promises={"p": 4}))
        self.assertEqual((registry.worst("p"), registry.deadline("p")), (4, 4))
        self.assertIsNone(registry.change(contracts={"a": Contract(ok=(1, 3))}))
        self.assertEqual((registry.worst("p"), registry.deadline("p")), (3, 4))
        self.assertIsNone(registry.change(plans={"p": Plan.parse("pause 2")}))
        self.assertEqual((registry.worst("p"), registry.deadline("p")), (2, 4))
        self.assertIsNone(registry.change(promises={"p": None}))
        self.assertIsNone(registry.deadline("p"))
        self.assertIsNone(registry.change(promises={"p": None}))

    def test_names_in_another_order(self):
        registry = Registry()
        registry.change(promises={"p": 4}, plans={"p": Plan.parse("call a")}, contracts={"a": Contract(ok=(1, 4))})
        self.assertEqual(registry.deadline(name="p"), 4)
        self.assertEqual(registry.worst(name="p"), 4)
        self.assertEqual(registry.begin(name="p"), 0)
        self.assertIsNone(registry.close(replies=[(0, "ok")], number=0, time=3))
        self.assertEqual(registry.outcome(number=0), ("ok", 3))
        self.assertEqual(registry.possible(number=0), Outcomes(Times([(3, 3)]), Times([]), False))
        self.assertEqual(registry.bindings(number=0)[0], Plan.parse("call a"))
        with self.assertRaises(TypeError):
            registry.change({})

    def test_a_promise_kept_by_changes_at_once(self):
        registry = both()
        self.refuse(registry, ("PromiseBroken", "both", [("ok", 8), ("ok", 3)]), contracts={"t": Contract(ok=(3, 3))})
        registry.change(contracts={"t": Contract(ok=(3, 3)), "s": Contract(ok=(1, 7))})
        registry.change(contracts={"s": Contract(ok=(1, 9))}, promises={"both": 12})
        registry.change(contracts={"s": Contract(hang=True)}, promises={"both": None})
        self.assertEqual((registry.worst("both"), registry.deadline("both")), (None, None))
        registry.change(contracts={"s": Contract(hang=True)}, plans={"both": Plan.parse("within 7 call s")},
                        promises={"both": 7})
        self.refuse(registry, ("PromiseBroken", "both", [NEVER]), promises={"both": 6})
        self.refuse(registry, ("PromiseBroken", "both", [NEVER]), plans={"both": Plan.parse("call s")})

    def test_unknown_names(self):
        registry = both()
        self.refuse(registry, ("UnknownName", "a"), promises={"z": 3, "a": 4, "both": 1})
        self.refuse(registry, ("UnknownName", "b"), promises={"c": 3, "b": None})
        self.refuse(registry, ("UnknownName", "s"), promises={"s": None})
        self.refuse(registry, ("UnknownName", "x"), promises={"x": 4}, plans={"y": Plan.parse("hole")})
        registry.change(promises={"x": 4}, plans={"x": Plan.parse("pause 4")})
        self.assertEqual(registry.deadline("x"), 4)

    def test_plans_that_are_refused(self):
        registry = both()
        good, hole, mark = Plan.parse("call s"), Plan.parse("(call u then hole)"), Plan.parse("within ? call s")
        unknown, large = Plan.parse("(call s then (call v then call u))"), Plan.parse(one_too_large()[0])
        unknown_large = Plan.parse("(call w then retry 8 0 call s)")
        for bad, wanted in [(hole, ("HasHole",)), (mark, ("HasHole",)), (unknown, ("UnknownService", "v")),
                            (unknown_large, ("UnknownService", "w"))]:
            self.refuse(registry, wanted, plans={"x": good, "m": bad})
            self.refuse(registry, wanted, plans={"x": bad, "m": good}, promises={"both": 1})
        self.refuse(registry, ("TooLarge",), plans={"m": large}, contracts={"a": Contract(ok=(1, 1))})
        self.refuse(registry, ("UnknownService", "a"), plans={"m": large})
        # Plan by plan, in the order of the names.
        self.refuse(registry, ("UnknownService", "v"), plans={"x": hole, "m": unknown})
        self.refuse(registry, ("HasHole",), plans={"m": hole, "x": unknown})
        self.refuse(registry, ("UnknownName", "q"), plans={"m": hole}, promises={"q": 3})
        self.assertEqual(error_of(registry.worst, "m"), ("UnknownName", "m"))
        registry.change(contracts={"v": Contract(ok=(1, 1)), "u": Contract(fail=(1, 1))}, plans={"m": unknown})
        self.assertEqual(registry.worst("m"), 10)

    def test_first_promise(self):
        registry = Registry()
        plans = {name: Plan.parse("call a") for name in ("c", "b", "d")}
        registry.change(contracts={"a": Contract(ok=(1, 5))}, plans=plans, promises={"c": 5, "d": 6, "b": 7})
        self.refuse(registry, ("PromiseBroken", "c", [("ok", 6)]), contracts={"a": Contract(ok=(1, 6))})
        found = error_of(registry.change, contracts={"a": Contract(ok=(1, 7))})
        self.assertEqual(found[:2], ("PromiseBroken", "c"))
        found = error_of(registry.change, contracts={"a": Contract(ok=(1, 9))})
        self.assertEqual(found[:2], ("PromiseBroken", "b"))
        self.refuse(registry, ("PromiseBroken", "d", [("ok", 6)]), contracts={"a": Contract(ok=(1, 6))},
                    promises={"c": None, "d": 5})

    def test_a_refused_change_changes_nothing(self):
        registry = both()
        number = registry.begin("both")
        for changes in [{"promises": {"none": 3}}, {"plans": {"p": Plan.parse("hole")}},
                        {"promises": {"both": 9}}, {"contracts": {"s": Contract(ok=(1, 9))}}]:
            given = {"contracts": {"new": Contract(ok=(1, 1))}, "plans": {"new": Plan.parse("call t")},
                     "promises": {"both": 20}}
            merged = {word: {**given[word], **changes.get(word, {})} for word in given}
            if "contracts" in changes:
                merged["promises"] = {}
            self.assertIsNotNone(error_of(registry.change, **merged))
            self.assertEqual((registry.worst("both"), registry.deadline("both")), (10, 10))
            self.assertEqual(error_of(registry.worst, "new"), ("UnknownName", "new"))
            self.refuse(registry, ("UnknownService", "new"), plans={"p": Plan.parse("call new")})
            self.assertEqual(registry.possible(number).worst(), 10)

    def test_run_late(self):
        registry = both()
        number = registry.begin("both")
        registry.change(promises={"both": None})
        # The first call is bound by the contract that it began with.
        registry.change(contracts={"s": Contract(ok=(1, 99))})
        self.assertEqual(registry.worst("both"), 101)
        self.refuse(registry, ("RunLate", 0, [("ok", 8), ("ok", 3)]), contracts={"t": Contract(ok=(1, 3))})
        registry.close(number, 5, [(0, "ok")])
        registry.change(contracts={"t": Contract(ok=(1, 3))})
        self.assertEqual(registry.possible(number).ok.ranges, ((6, 7),))
        self.refuse(registry, ("PromiseBroken", "both", [("ok", 99), ("ok", 3)]), promises={"both": 101})

    def test_promise_broken_ahead_of_run_late(self):
        registry = both()
        registry.begin("both")
        registry.begin("both")
        found = error_of(registry.change, contracts={"t": Contract(ok=(1, 3))})
        self.assertEqual(found[:2], ("PromiseBroken", "both"))
        found = error_of(registry.change, contracts={"t": Contract(ok=(1, 3))}, promises={"both": None})
        self.assertEqual(found[:2], ("RunLate", 0))
        registry.close(0, 1, [(0, "ok")])
        found = error_of(registry.change, contracts={"t": Contract(hang=True)}, promises={"both": None})
        self.assertEqual(found, ("RunLate", 1, [("ok", 1), NEVER]))

    def test_runs_that_do_not_matter(self):
        registry = both()
        ended, broken, without = registry.begin("both"), registry.begin("both"), None
        registry.close(ended, 1, [(0, "ok")])
        registry.close(ended, 2, [(1, "fail")])
        registry.close(broken, 9, [])
        registry.change(promises={"both": None})
        without = registry.begin("both")
        registry.change(contracts={"t": Contract(hang=True), "s": Contract(hang=True)})
        self.assertIsNone(registry.possible(without).worst())
        self.assertEqual(error_of(registry.possible, ended), ("Broken", 1))
        self.assertEqual(error_of(registry.possible, broken), ("Broken", 0))

    def test_names_of_services_and_plans(self):
        registry = Registry()
        registry.change(contracts={"a": Contract(ok=(1, 4))}, plans={"a": Plan.parse("(call a then call a)")})
        registry.change(promises={"a": 8})
        self.assertEqual(registry.worst("a"), 8)
        registry.change(plans={"a": Plan.parse("call a")})
        self.assertEqual((registry.worst("a"), registry.deadline("a")), (4, 8))

    def test_one_plan_under_two_names(self):
        registry, plan = Registry(), Plan.parse("call a")
        registry.change(contracts={"a": Contract(ok=(1, 4))}, plans={"p": plan, "q": plan}, promises={"p": 9, "q": 5})
        self.assertEqual((registry.deadline("p"), registry.deadline("q")), (9, 5))
        registry.begin("p")
        registry.begin("q")
        found = error_of(registry.change, contracts={"a": Contract(ok=(1, 7))})
        self.assertEqual(found[:2], ("PromiseBroken", "q"))

    def test_dicts_that_change_later(self):
        contracts, plans = {"a": Contract(ok=(1, 4))}, {"p": Plan.parse("call a")}
        promises = {"p": 9}
        registry = Registry()
        registry.change(contracts=contracts, plans=plans, promises=promises)
        self.assertEqual([list(contracts), list(plans), promises], [["a"], ["p"], {"p": 9}])
        contracts["a"], plans["p"], promises["p"] = Contract(hang=True), Plan.parse("fail"), 3
        contracts["b"], plans["q"] = Contract(hang=True), Plan.parse("fail")
        self.assertEqual((registry.worst("p"), registry.deadline("p")), (4, 9))
        self.assertEqual(error_of(registry.worst, "q"), ("UnknownName", "q"))
        registry.begin("p")
        self.assertEqual(registry.possible(0).worst(), 4)

    def test_great_numbers(self):
        wide = Contract(ok=(1, 10**6), fail=(1, 10**6))
        registry = Registry()
        for text in just_small():
            plan = Plan.parse(text)
            worst = outcomes(plan, {"a": wide}).worst()
            registry = Registry()
            registry.change(contracts={"a": wide}, plans={"p": plan}, promises={"p": worst})
            if worst > 0:
                found = error_of(registry.change, promises={"p": worst - 1})
                self.assertEqual(found[:2], ("PromiseBroken", "p"))
            number = registry.begin("p")
            registry.close(number, 7, [])
            self.assertLessEqual(registry.possible(number).worst(), worst)
        registry = Registry()
        registry.change(contracts={"a": wide}, plans={"p": Plan.parse("retry 8 100000000 call a")},
                        promises={"p": 7 * 10**8 + 8 * 10**6})
        registry.begin("p")
        found = error_of(registry.change, contracts={"a": Contract(fail=(1, 10**6), hang=True)}, promises={"p": None})
        self.assertEqual(found[:2], ("RunLate", 0))


class RunsTest(unittest.TestCase):
    def test_unknown_names(self):
        registry = both()
        for name in ("s", "x", "", "bot", "both ", None, 0, ["both"], ("both",)):
            for ask in (registry.worst, registry.deadline, registry.begin):
                for _ in range(2):
                    self.assertEqual(error_of(ask, name), ("UnknownName", name))
        self.assertEqual(registry.begin("both"), 0)

    def test_unknown_runs(self):
        registry = both()
        registry.begin("both")
        registry.begin("both")
        for number in (2, 3, -1, -2, 10**30, True, False, None, "0", [0]):
            for ask in (registry.outcome, registry.possible, registry.bindings):
                self.assertEqual(error_of(ask, number), ("UnknownRun", number))
            self.assertEqual(error_of(registry.close, number, 5, []), ("UnknownRun", number))
            self.assertEqual(error_of(registry.close, number, 0, [(9, "ok")]), ("UnknownRun", number))

    def test_errors_of_close(self):
        registry = both()
        number = registry.begin("both")
        self.assertEqual(error_of(registry.close, number, 0, [(9, "ok")]), ("BadTime", 0))
        self.assertEqual(error_of(registry.close, number, None, []), ("BadTime", None))
        self.assertEqual(error_of(registry.close, number, 5, [(0, "ok"), (1, "ok")]), ("BadReply", 1))
        self.assertIsNone(registry.close(number, 5, [(0, "ok")]))
        self.assertEqual(error_of(registry.close, number, 5, []), ("BadTime", 5))

    def test_refused_closes_bind_nothing(self):
        registry = both()
        number = registry.begin("both")
        registry.change(promises={"both": None})
        self.assertEqual(error_of(registry.close, number, 5, [(0, "ok"), (0, "ok")]), ("BadReply", 0))
        registry.change(contracts={"t": Contract(ok=(2, 2))})
        registry.close(number, 5, [(0, "ok")])
        self.assertEqual(error_of(registry.close, number, 6, [(0, "ok")]), ("BadReply", 0))
        registry.change(contracts={"t": Contract(ok=(1, 1))})
        self.assertEqual(registry.bindings(number)[1][1], Outcomes(Times([(2, 2)]), Times([]), False))

    def test_bound_by_the_close_in_which_it_starts(self):
        registry = Registry()
        registry.change(contracts={"a": Contract(ok=(1, 5))}, plans={"p": Plan.parse("(pause 10 then call a)")})
        for close, wanted in [(9, (1, 20)), (10, (1, 5)), (40, None)]:
            registry.change(contracts={"a": Contract(ok=(1, 5))})
            number = registry.begin("p")
            registry.close(number, close, [])
            registry.change(contracts={"a": Contract(ok=(1, 20))})
            if wanted is None:
                # The call started at 10, in a close that went over many times.
                self.assertEqual(error_of(registry.bindings, number), ("Broken", 0))
            else:
                self.assertEqual(registry.bindings(number)[1], [Outcomes(Times([wanted]), Times([]), False)])

    def test_runs_keep_their_plans_and_deadlines(self):
        registry = both()
        first = registry.begin("both")
        registry.change(plans={"both": Plan.parse("call s")}, promises={"both": 9})
        second = registry.begin("both")
        registry.change(promises={"both": None}, plans={"both": Plan.parse("call t")})
        third = registry.begin("both")
        self.assertEqual([str(registry.bindings(number)[0]) for number in (first, second, third)],
                         ["(call s then call t)", "call s", "call t"])
        found = error_of(registry.change, contracts={"t": Contract(ok=(3, 3))})
        self.assertEqual(found, ("RunLate", 0, [("ok", 8), ("ok", 3)]))
        registry.close(first, 4, [(0, "ok")])
        registry.change(contracts={"t": Contract(ok=(3, 3))})
        self.assertEqual(registry.possible(third), Outcomes(Times([(1, 2)]), Times([]), False))

    def test_several_runs(self):
        registry = both()
        one, two = registry.begin("both"), registry.begin("both")
        registry.close(one, 3, [(0, "ok")])
        registry.close(two, 2, [])
        registry.close(one, 4, [(1, "ok")])
        self.assertEqual([registry.outcome(one), registry.outcome(two)], [("ok", 4), None])
        self.assertEqual([registry.possible(one).ok.ranges, registry.possible(two).ok.ranges], [((4, 4),), ((4, 10),)])

    def test_bindings(self):
        registry = both()
        number = registry.begin("both")
        registry.close(number, 3, [])
        found = registry.bindings(number)
        self.assertIs(type(found), tuple)
        self.assertIs(type(found[1]), list)
        wanted = [Outcomes(Times([(4, 8)]), Times([]), False), Outcomes(Times([(1, 2)]), Times([]), False)]
        self.assertEqual(found, (Plan.parse("(call s then call t)"), wanted))
        found[1].clear()
        self.assertEqual(registry.bindings(number)[1], wanted)
        self.assertIsNot(registry.bindings(number)[1], registry.bindings(number)[1])
        registry.close(number, 9, [])
        self.assertEqual(error_of(registry.bindings, number), ("Broken", 0))
        self.assertEqual(error_of(registry.possible, number), ("Broken", 0))
        self.assertIsNone(registry.outcome(number))

    def test_like_a_run_while_nothing_changes(self):
        source, contracts = random.Random(95), {name: some_contract(random.Random(96), 4) for name in "abc"}
        for tree in reference.some_trees(97, 60, 5, NUMBERS):
            registry, run = Registry(), Run(plan_of(tree))
            registry.change(contracts=contracts, plans={"p": plan_of(tree)})
            registry.begin("p")
            for _ in range(5):
                time = run.time + source.choice([1, 2])
                replies = [(number, source.choice(["ok", "fail"])) for number, _ in run.waiting()][:1]
                found = error_of(run.close, time, replies)
                self.assertEqual(error_of(registry.close, 0, time, replies), found)
                self.assertEqual(registry.outcome(0), run.outcome())
                broken = error_of(run.possible, contracts)
                self.assertEqual(error_of(registry.possible, 0), broken)
                if broken is None:
                    self.assertEqual(registry.possible(0), run.possible(contracts))


if __name__ == "__main__":
    unittest.main()
