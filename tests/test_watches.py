import copy
import itertools
import random
import unittest

import reference
import replysets
import stepping
import trees
from callplans.bound import bound_by, bound_of
from callplans.contracts import Contract
from callplans.counts import Counts
from callplans.errors import NotWaiting
from callplans.frames import framed
from callplans.outcomes import Outcomes
from callplans.plans import Plan
from callplans.reasons import reasons, settled
from callplans.runs import Run
from callplans.times import Times
from callplans.watches import Watch
from checking import error_of
from replysets import made, outcomes_in, some_wanted
from sizes import just_small
from values import any_values

NEVER = ("never",)
CONTRACTS = {
    "a": Contract(ok=(1, 3), fail=(2, 4)), "b": Contract(ok=(2, 2), fail=(3, 3), hang=True), "c": Contract(fail=(1, 2)),
}
SHORT = {"a": Contract(ok=(1, 8)), "b": Contract(ok=(1, 4))}
EARLY = made([(0, 10)])


def answer(ends, wanted):
    """Returns the answer of a collection of outcomes, by point 23."""
    inside = [end in wanted for end in ends]
    return True if all(inside) else None if any(inside) else False


def some_closing(source, run, tree, contracts, keeps=0.9):
    """Returns replies for the next time, most of which keep their contracts."""
    replies = []
    for number, start in run.waiting():
        contract, time = contracts[trees.services(tree)[number]], run.time + 1 - start
        allowed = [word for word in ("ok", "fail") if contract.allows((word, time))]
        later = any(contract.allows((word, more)) for word in ("ok", "fail") for more in range(time + 1, 12))
        if source.random() > keeps:
            allowed = [source.choice(["ok", "fail"])]
        if allowed and (source.random() < 0.4 or not (later or contract.hang)):
            replies.append((number, source.choice(allowed)))
    return source.sample(replies, len(replies))


class Seen:
    """What a watch has to tell, by all worlds that agree with the run, and all sets of calls."""

    def __init__(self, tree, run, contracts, wanted):
        self.plain, self.wanted = trees.written_out(tree), wanted
        every = [contracts[name] for name in trees.services(tree)]
        self.wide = [set(reference.replies(contract)) for contract in every]
        self.narrow = [{reply for reply in some if stepping.agrees(reply, item, run.time)}
                       for some, item in zip(self.wide, run.record())]

    def broken(self):
        return next((number for number, some in enumerate(self.narrow) if not some), None)

    def answer(self, sets):
        return answer({reference.outcome_of_form(self.plain, iter(world)) for world in itertools.product(*sets)},
                      self.wanted)

    def alone(self, number, reply):
        """Returns the answer if a reply is the only one in the set of a call."""
        return self.answer(self.narrow[:number] + [{reply}] + self.narrow[number + 1:])

    def sure(self, number):
        return {reply for reply in self.narrow[number] if self.alone(number, reply) is True}

    def hopeful(self, number):
        return {reply for reply in self.narrow[number] if self.alone(number, reply) is not False}

    def blame(self):
        many = range(len(self.wide))
        found = []
        for size in range(len(self.wide) + 1):
            for calls in itertools.combinations(many, size):
                sets = [self.narrow[number] if number in calls else self.wide[number] for number in many]
                if not any(set(reason) <= set(calls) for reason in found) and self.answer(sets) is not None:
                    found.append(calls)
        return sorted(found)


class AgainstAllWorldsTest(unittest.TestCase):
    def check(self, watch, tree, run, contracts, wanted):
        """Checks all that a watch tells, and returns its state, or "broken"."""
        seen, told = Seen(tree, run, contracts, wanted), (tree, run.time, run.record(), reference.as_set(wanted))
        waiting = [number for number, _ in run.waiting()]
        if seen.broken() is not None:
            for ask in (watch.state, watch.blame, *[lambda: watch.sure(number) for number in (0, 9)],
                        *[lambda: watch.hopeful(number) for number in (0, -1)]):
                self.assertEqual(error_of(ask), ("Broken", seen.broken()), told)
            return "broken"
        state = seen.answer(seen.narrow)
        self.assertIs(watch.state(), state, told)
        for number in range(-1, len(seen.narrow) + 1):
            if number not in waiting:
                self.assertEqual(error_of(watch.sure, number), ("NotWaiting", number))
                self.assertEqual(error_of(watch.hopeful, number), ("NotWaiting", number))
                continue
            self.assertEqual(watch.sure(number), outcomes_in(seen.sure(number)), told)
            self.assertEqual(watch.hopeful(number), outcomes_in(seen.hopeful(number)), told)
            self.assertTrue(watch.sure(number).is_within(watch.hopeful(number)))
        if state is None:
            self.assertEqual(error_of(watch.blame), ("NotSettled",), told)
        else:
            self.assertEqual(watch.blame(), seen.blame(), told)
        return state

    def some_wanted(self, source, run, contracts):
        """Returns a set of outcomes, mostly one for which the run is open at first."""
        ends = sorted(reference.as_set(run.possible(contracts)), key=str)
        near = outcomes_in(source.sample(ends, source.randint(0, len(ends))))
        return source.choice([near, near, near, some_wanted(source)])

    def test_behind_each_close(self):
        source, found = random.Random(261), []
        for tree in reference.some_trees(262, 320, 3, [0, 1, 2, 3, 5], depth=4):
            if len(trees.services(tree)) < 2 and source.random() < 0.8:
                continue
            run = Run(replysets.plan_of(tree))
            wanted = self.some_wanted(source, run, CONTRACTS)
            watch = Watch(run, CONTRACTS, wanted)
            for step in range(5):
                found.append(self.check(watch, tree, run, CONTRACTS, wanted))
                run.close(run.time + 1, some_closing(source, run, tree, CONTRACTS))
                if step == 2:
                    # One that is made in the midst tells the same.
                    self.check(Watch(run, CONTRACTS, wanted), tree, run, CONTRACTS, wanted)
        for state in (True, False, None, "broken"):
            self.assertGreater(found.count(state), 25, state)

    def test_two_watches_and_two_runs(self):
        source = random.Random(263)
        other_contracts = {**CONTRACTS, "a": Contract(ok=(2, 3), fail=(2, 2), hang=True)}
        for tree in reference.some_trees(264, 60, 3, [0, 1, 2, 3], depth=3):
            runs = [Run(replysets.plan_of(tree)) for _ in range(2)]
            watches = []
            for run in runs:
                for contracts in (CONTRACTS, other_contracts):
                    wanted = self.some_wanted(source, run, contracts)
                    watches.append((Watch(run, contracts, wanted), tree, run, contracts, wanted))
            for _ in range(4):
                for watch in watches:
                    self.check(*watch)
                run = source.choice(runs)
                run.close(run.time + 1, some_closing(source, run, tree, CONTRACTS))

    def test_facts_of_watches(self):
        # Point 28: what stays settled, sure and without hope, and what a reply settles that is sure or without hope.
        source, settling = random.Random(265), []
        for tree in reference.some_trees(266, 400, 4, [0, 1, 2, 3, 5], depth=4):
            run = Run(replysets.plan_of(tree))
            wanted = self.some_wanted(source, run, CONTRACTS)
            watch = Watch(run, CONTRACTS, wanted)
            for _ in range(6):
                before, starts = watch.state(), dict(run.waiting())
                sure = {number: watch.sure(number) for number in starts}
                hopeful = {number: watch.hopeful(number) for number in starts}
                replies = some_closing(source, run, tree, CONTRACTS, keeps=1)
                run.close(run.time + 1, replies)
                if error_of(watch.state) is not None:
                    break
                if before is not None:
                    self.assertIs(watch.state(), before)
                for number, word in replies:
                    reply = (word, run.time - starts[number])
                    if reply in sure[number]:
                        settling.append(True)
                        self.assertIs(watch.state(), True)
                    if reply not in hopeful[number]:
                        settling.append(False)
                        self.assertIs(watch.state(), False)
                for number, _ in run.waiting():
                    if number in starts:
                        left = reference.as_set(bound_of(run, CONTRACTS)[number])
                        self.assertTrue(reference.as_set(sure[number]) & left
                                        <= reference.as_set(watch.sure(number)))
                        self.assertTrue(reference.as_set(watch.hopeful(number))
                                        <= reference.as_set(hopeful[number]))
        self.assertGreater(settling.count(True), 50)
        self.assertGreater(settling.count(False), 50)

    def test_worlds_behind_the_next_time(self):
        # Point 28: the numbers of worlds behind closing the next time add up to those before.
        source, steps = random.Random(267), 0
        for tree in reference.some_trees(268, 150, 4, [0, 1, 2, 3], depth=4):
            run = Run(replysets.plan_of(tree))
            wanted = self.some_wanted(source, run, CONTRACTS)
            for _ in range(4):
                if error_of(bound_of, run, CONTRACTS) is not None:
                    break
                before = bound_of(run, CONTRACTS)
                after = []
                choices = [[None, (number, "ok"), (number, "fail")] for number, _ in run.waiting()]
                for given in itertools.product(*choices):
                    next_run = copy.deepcopy(run)
                    next_run.close(run.time + 1, [reply for reply in given if reply is not None])
                    if error_of(bound_of, next_run, CONTRACTS) is None:
                        after.append(bound_of(next_run, CONTRACTS))
                steps += len(after) > 1
                self.assertEqual(sum(bound.worlds() for bound in after), before.worlds(), (tree, run.record()))
                self.assertEqual(sum(Counts(bound).within(wanted) for bound in after), Counts(before).within(wanted))
                run.close(run.time + 1, some_closing(source, run, tree, CONTRACTS, keeps=1))
        self.assertGreater(steps, 50)


class WatchTest(unittest.TestCase):
    def test_example(self):
        run = Run(Plan.parse("(call a then call b)"))
        watch = Watch(run, SHORT, Outcomes(Times([(0, 10)]), Times([]), False))
        run.close(7, [(0, "ok")])
        found = [watch.state(), watch.sure(1).ok.ranges]
        run.close(11, [(1, "ok")])
        self.assertEqual(found + [watch.state(), watch.blame()], [None, ((1, 3),), False, [(0, 1)]])

    def test_names_in_another_order(self):
        run = Run(Plan.parse("(call a then call b)"))
        watch = Watch(wanted=EARLY, contracts=SHORT, run=run)
        self.assertEqual(watch.sure(number=0), made([(1, 6)]))
        self.assertEqual(watch.hopeful(number=0), made([(1, 8)]))
        self.assertEqual(error_of(watch.sure, number=1), ("NotWaiting", 1))

    def test_great_times_of_starts(self):
        run = Run(Plan.parse("(pause 1000000000 then (call a both call b))"))
        watch = Watch(run, SHORT, made([(0, 10**9 + 5)]))
        self.assertIsNone(watch.state())
        self.assertEqual(error_of(watch.sure, 0), ("NotWaiting", 0))
        run.close(10**9 + 2, [(0, "ok")])
        # Times count from the start of the call.
        self.assertEqual([watch.state(), error_of(watch.sure, 0)], [True, ("NotWaiting", 0)])
        self.assertEqual([watch.sure(1), watch.hopeful(1)], [made([(3, 4)]), made([(3, 4)])])
        self.assertEqual(watch.blame(), [(0,)])

    def test_no_reply_so_far_is_to_blame(self):
        run = Run(Plan.parse("(call a then call b)"))
        watch = Watch(run, SHORT, made([(0, 5)]))
        run.close(3, [])
        self.assertEqual(error_of(watch.blame), ("NotSettled",))
        self.assertEqual([watch.sure(0), watch.hopeful(0)], [made(), made([(4, 4)])])
        run.close(4, [])
        self.assertEqual([watch.state(), watch.blame()], [False, [(0,)]])

    def test_settled_from_the_beginning(self):
        run = Run(Plan.parse("(call a then call b)"))
        for wanted, state in [(made([(0, 12)]), True), (made(), False), (made([], [(0, 10**12)], True), False),
                              (made([(0, 10**12)], [(0, 10**12)], True), True)]:
            watch = Watch(run, SHORT, wanted)
            self.assertIs(watch.state(), state)
            self.assertEqual(watch.blame(), [()])
            self.assertEqual(watch.sure(0), made([(1, 8)]) if state else made())
            self.assertEqual(watch.hopeful(0), made([(1, 8)]) if state else made())

    def test_never_as_a_reply(self):
        run = Run(Plan.parse("(call a either call b)"))
        watch = Watch(run, {"a": Contract(ok=(1, 9), hang=True), "b": Contract(hang=True, fail=(1, 2))}, made([], [], True))
        self.assertEqual([watch.sure(0), watch.hopeful(0)], [made([], [], True), made([], [], True)])
        self.assertEqual([watch.sure(1), watch.hopeful(1)], [made(), made([], [(1, 2)], True)])
        run.close(9, [])
        self.assertEqual([watch.state(), watch.blame()], [True, [(0,)]])

    def test_unknown_services(self):
        run = Run(Plan.parse("(call a both (call x then (call y both call x)))"))
        self.assertEqual(error_of(Watch, run, SHORT, EARLY), ("UnknownService", "x"))
        self.assertEqual(error_of(Watch, run, {**SHORT, "x": SHORT["a"]}, EARLY), ("UnknownService", "y"))
        self.assertEqual(error_of(Watch, run, {}, EARLY), ("UnknownService", "a"))
        run.close(99, [])
        self.assertEqual(error_of(Watch, run, SHORT, EARLY), ("UnknownService", "x"))
        watch = Watch(run, {**SHORT, "x": SHORT["a"], "y": SHORT["a"]}, EARLY)
        self.assertEqual(error_of(watch.state), ("Broken", 0))

    def test_not_waiting(self):
        run = Run(Plan.parse("(call a then call b)"))
        watch = Watch(run, SHORT, EARLY)
        values = [value for value in any_values() if not (isinstance(value, int) and not isinstance(value, bool)
                                                          and value == 0)]
        for value in values + [1, 2, -1, "0", [0], (0,), 10**20, {0: 0}]:
            for ask in (watch.sure, watch.hopeful):
                for _ in range(2):
                    with self.assertRaises(NotWaiting) as caught:
                        ask(value)
                    self.assertIs(caught.exception.number, value)
        run.close(2, [(0, "ok")])
        self.assertEqual(error_of(watch.hopeful, 0), ("NotWaiting", 0))
        self.assertEqual(watch.hopeful(1), made([(1, 4)]))
        run.close(3, [(1, "ok")])
        self.assertEqual(error_of(watch.sure, 1), ("NotWaiting", 1))

    def test_broken_comes_first(self):
        run = Run(Plan.parse("(call a both call b)"))
        watch = Watch(run, SHORT, EARLY)
        run.close(5, [])
        for value in any_values() + [0, 1]:
            for ask in (watch.sure, watch.hopeful):
                self.assertEqual(error_of(ask, value), ("Broken", 1))
        for _ in range(2):
            self.assertEqual(error_of(watch.blame), ("Broken", 1))
            self.assertEqual(error_of(watch.state), ("Broken", 1))

    def test_the_contracts_may_change_later(self):
        contracts = dict(SHORT)
        run = Run(Plan.parse("(call a then call b)"))
        watch = Watch(run, contracts, EARLY)
        self.assertEqual(contracts, SHORT)
        before = [watch.state(), watch.sure(0), watch.hopeful(0)]
        contracts["a"] = Contract(hang=True)
        del contracts["b"]
        self.assertEqual([watch.state(), watch.sure(0), watch.hopeful(0)], before)

    def test_asking_changes_nothing(self):
        run = Run(Plan.parse("(call a then call b)"))
        watch = Watch(run, SHORT, made([(0, 5)]))
        run.close(5, [])
        first = watch.blame()
        self.assertIsNot(first, watch.blame())
        first.clear()
        self.assertEqual(watch.blame(), [(0,)])
        self.assertEqual([run.time, run.record(), run.waiting()], [5, [(0,), None], [(0, 0)]])

    def test_like_reasons_and_frames(self):
        run = Run(Plan.parse("retry 2 1 (call a both within 3 call b)"))
        watch = Watch(run, CONTRACTS, EARLY)
        run.close(1, [])
        wide, narrow = bound_by(run.plan, CONTRACTS), bound_of(run, CONTRACTS)
        self.assertIs(watch.state(), settled(narrow, EARLY))
        for number in (0, 1):
            harmless = framed(narrow, number).harmless(EARLY, most=10**6)
            sure = watch.sure(number)
            self.assertEqual(sure, Outcomes(harmless.ok & narrow[number].ok, harmless.fail & narrow[number].fail,
                                            harmless.never and narrow[number].never))
        run.close(3, [(0, "fail")])
        run.close(7, [])
        if watch.state() is not None:
            self.assertEqual(watch.blame(), reasons(wide, bound_of(run, CONTRACTS), EARLY))

    def test_great_plans(self):
        contracts = {"a": Contract(ok=(1, 10**6), fail=(1, 10**6), hang=True)}
        for text in just_small():
            run = Run(Plan.parse(text))
            watch = Watch(run, contracts, made([(0, 3 * 10**6)], [(5, 10**9)]))
            for _ in range(6):
                for number, _ in run.waiting():
                    self.assertTrue(watch.sure(number).is_within(watch.hopeful(number)))
                if watch.state() is not None:
                    self.assertNotEqual(watch.blame(), [])
                run.close(run.time + 1, [(number, "fail") for number, _ in run.waiting()][:2])
                # So no reply is later than the contract allows.
                run.close(run.time + 10**5, [])


if __name__ == "__main__":
    unittest.main()
