import copy
import itertools
import random
import unittest

import reference
import stepping
import trees
from callplans.contracts import Contract
from callplans.errors import BadReply, BadTime
from callplans.plans import Plan
from callplans.runs import Run
from checking import error_of
from sizes import just_small, one_too_large
from values import any_values

NEVER = ("never",)
NUMBERS = [0, 0, 1, 2, 3, 5, 8]
CONTRACTS = {
    "a": Contract(ok=(1, 3), fail=(2, 4)), "b": Contract(ok=(2, 2), fail=(5, 5), hang=True), "c": Contract(fail=(1, 2)),
}


def begun(text):
    """Returns a new run of the plan of a text."""
    return Run(Plan.parse(text))


def told(run):
    """Returns all that a run tells without contracts."""
    return [run.time, str(run.plan), run.outcome(), run.waiting(), run.record()]


def some_replies(source, waiting):
    """Returns replies for some of the calls that wait, in any order; source is a random.Random."""
    numbers = [number for number, _ in waiting]
    source.shuffle(numbers)
    chosen = numbers[:source.choice([0, 0, 1, 1, 2, 3, 8])]
    return [(number, source.choice(["ok", "fail"])) for number in chosen]


class SteppingTest(unittest.TestCase):
    """Runs against a reading that goes through every time one by one."""

    def check(self, tree, run, stepper, asked):
        found = [run.time, run.outcome(), run.waiting(), run.record()]
        self.assertEqual(found, [stepper.time, stepper.outcome(), stepper.waiting(), stepper.record()], (tree, asked))
        world = [NEVER if item is None or len(item) == 1 or item[1] == "cancelled" else (item[1], item[2] - item[0])
                 for item in run.record()]
        outcome = reference.outcome(tree, world)
        reading = None if outcome == NEVER or outcome[1] > run.time else outcome
        self.assertEqual(run.outcome(), reading, (tree, asked))

    def go(self, source, tree, closes, steps):
        run, stepper, asked = Run(Plan.parse(trees.text_of(tree))), stepping.Stepper(tree), []
        self.check(tree, run, stepper, asked)
        for _ in range(closes):
            time = run.time + source.choice(steps)
            stepper.close(time - 1, [])
            replies = some_replies(source, stepper.waiting())
            asked.append((time, replies))
            kept = list(replies)
            self.assertIsNone(run.close(time, replies))
            self.assertEqual(replies, kept)
            stepper.close(time, replies)
            self.check(tree, run, stepper, asked)

    def test_every_time(self):
        source = random.Random(81)
        for tree in reference.some_trees(82, 500, 6, NUMBERS, depth=5):
            self.go(source, tree, 12, [1])

    def test_many_times_at_once(self):
        source = random.Random(83)
        for tree in reference.some_trees(84, 500, 8, NUMBERS, depth=5):
            self.go(source, tree, 6, [1, 2, 3, 4, 7])

    def test_pairs_of_pairs(self):
        # Each form within each form, with replies that come one by one and at the same time.
        source = random.Random(85)
        leaves = [("call", "a"), ("within", 3, ("call", "b")), ("pause", 2), ("retry", 2, 1, ("call", "c"))]
        inner = [(word, one, two) for word in trees.PAIRS for one in leaves for two in leaves]
        for word in trees.PAIRS:
            for tree in inner[::3]:
                for other in leaves:
                    self.go(source, (word, tree, other), 5, [1, 2])
                    self.go(source, ("within", 4, (word, other, tree)), 5, [1, 2])


class RunTest(unittest.TestCase):
    def check(self, run, outcome, record):
        self.assertEqual(run.outcome(), outcome)
        self.assertEqual(run.record(), record)
        waiting = [(number, item[0]) for number, item in enumerate(record) if item is not None and len(item) == 1]
        self.assertEqual(run.waiting(), waiting)

    def test_example(self):
        run = begun("within 5 (call db else call web)")
        run.close(2, [(0, "fail")])
        found = [run.waiting(), run.outcome(), run.close(9, []), run.outcome()]
        self.assertEqual(found, [[(1, 2)], None, None, ("fail", 5)])
        self.assertEqual(run.record(), [(0, "fail", 2), (2, "cancelled", 5)])

    def test_attributes(self):
        plan = Plan.parse("(call a then call b)")
        run = Run(plan=plan)
        self.assertEqual((run.plan, run.time), (plan, 0))
        self.assertIs(type(run.time), int)
        run.close(replies=[(0, "ok")], time=7)
        self.assertEqual((run.plan, run.time), (plan, 7))

    def test_kinds_of_results(self):
        run = begun("((call a both call b) then (call c both call d))")
        run.close(3, [(0, "ok")])
        self.assertIs(type(run.waiting()), list)
        self.assertIs(type(run.record()), list)
        self.assertEqual([type(item) for item in run.record()], [tuple, tuple, type(None), type(None)])
        self.assertEqual([type(item) for item in run.waiting()], [tuple])
        run.close(4, [(1, "fail")])
        self.assertIs(type(run.outcome()), tuple)

    def test_returned_lists_are_new(self):
        run = begun("(call a both call b)")
        before = told(run)
        for name in ("waiting", "record"):
            first, second = getattr(run, name)(), getattr(run, name)()
            self.assertIsNot(first, second)
            first.clear()
            second.append((7, 7))
        self.assertEqual(told(run), before)

    def test_ended_at_once(self):
        for text, outcome in [("pause 0", ("ok", 0)), ("fail", ("fail", 0)), ("(fail else pause 0)", ("ok", 0)),
                              ("(pause 0 either call a)", ("ok", 0)), ("(call a both fail)", ("fail", 0)),
                              ("within 0 call a", ("fail", 0)), ("within 0 pause 0", ("ok", 0)),
                              ("retry 8 0 fail", ("fail", 0)), ("(within 0 call a else pause 0)", ("ok", 0))]:
            run = begun(text)
            self.check(run, outcome, [None] * len(run.plan.calls()))
            run.close(10**9, [])
            self.check(run, outcome, [None] * len(run.plan.calls()))

    def test_never_ends(self):
        run = begun("call a")
        for time in (1, 10**6, 10**12, 10**30):
            run.close(time, [])
            self.check(run, None, [(0,)])
        run.close(10**30 + 1, [(0, "ok")])
        self.check(run, ("ok", 10**30 + 1), [(0, "ok", 10**30 + 1)])

    def test_reply_at_the_time_of_a_timeout(self):
        for time, outcome, record in [(4, ("ok", 4), [(0, "ok", 4)]), (5, ("ok", 5), [(0, "ok", 5)])]:
            run = begun("within 5 call a")
            run.close(time, [(0, "ok")])
            self.check(run, outcome, record)
        run = begun("within 5 call a")
        self.assertEqual(error_of(run.close, 6, [(0, "ok")]), ("BadReply", 0))
        run.close(6, [])
        self.check(run, ("fail", 5), [(0, "cancelled", 5)])

    def test_reply_at_the_time_of_a_cut(self):
        run = begun("(call a either call b)")
        run.close(3, [(1, "ok"), (0, "ok")])
        self.check(run, ("ok", 3), [(0, "ok", 3), (0, "ok", 3)])
        run = begun("(call a both (call b then call c))")
        run.close(3, [(0, "fail"), (1, "ok")])
        self.check(run, ("fail", 3), [(0, "fail", 3), (0, "ok", 3), None])
        run = begun("(pause 3 either call a)")
        run.close(3, [(0, "fail")])
        self.check(run, ("ok", 3), [(0, "fail", 3)])
        run = begun("(pause 3 either call a)")
        run.close(4, [])
        self.check(run, ("ok", 3), [(0, "cancelled", 3)])

    def test_calls_that_begin_at_their_cut_do_not_start(self):
        for text in ("within 5 (pause 5 then call a)", "(pause 5 either (pause 5 then call a))",
                     "((pause 5 then fail) both (pause 5 then call a))", "within 5 (pause 7 then call a)",
                     "within 9 within 5 (within 5 call b else call a)", "(within 0 call b else within 0 call a)"):
            run = begun(text)
            run.close(20, [])
            self.assertIsNone(run.record()[-1], text)
        run = begun("within 5 (pause 4 then call a)")
        run.close(20, [])
        self.check(run, ("fail", 5), [(4, "cancelled", 5)])

    def test_inner_timeouts_come_first(self):
        run = begun("within 5 (within 5 call a else pause 0)")
        run.close(5, [])
        self.check(run, ("ok", 5), [(0, "cancelled", 5)])
        run = begun("within 5 (within 5 call a else (pause 0 then call b))")
        run.close(5, [])
        self.check(run, ("fail", 5), [(0, "cancelled", 5), None])

    def test_cut_by_the_earliest_form_around(self):
        run = begun("within 9 (within 6 (call a both call b) either within 4 call c)")
        run.close(5, [])
        self.check(run, None, [(0,), (0,), (0, "cancelled", 4)])
        run.close(8, [])
        self.check(run, ("fail", 6), [(0, "cancelled", 6), (0, "cancelled", 6), (0, "cancelled", 4)])

    def test_retries(self):
        run = begun("retry 3 5 call a")
        run.close(2, [(0, "fail")])
        self.check(run, None, [(0, "fail", 2), None, None])
        run.close(7, [])
        self.check(run, None, [(0, "fail", 2), (7,), None])
        run.close(10, [(1, "fail")])
        run.close(15, [])
        self.check(run, None, [(0, "fail", 2), (7, "fail", 10), (15,)])
        run.close(16, [(2, "fail")])
        self.check(run, ("fail", 16), [(0, "fail", 2), (7, "fail", 10), (15, "fail", 16)])

    def test_starts_within_a_close_over_many_times(self):
        run = begun("(pause 10 then (call a both (pause 10 then call b)))")
        run.close(15, [])
        self.check(run, None, [(10,), None])
        run.close(30, [(1, "ok"), (0, "ok")])
        self.check(run, ("ok", 30), [(10, "ok", 30), (20, "ok", 30)])

    def test_great_times(self):
        run = begun("(pause 1000000000 then (call a both within 1000000000 call b))")
        run.close(10**9 - 1, [])
        self.check(run, None, [None, None])
        run.close(10**9, [])
        self.check(run, None, [(10**9,), (10**9,)])
        run.close(2 * 10**9, [(0, "ok")])
        self.check(run, ("fail", 2 * 10**9), [(10**9, "ok", 2 * 10**9), (10**9, "cancelled", 2 * 10**9)])

    def test_great_plans(self):
        for text in just_small():
            run = begun(text)
            for _ in range(40):
                run.close(run.time + 2, [(number, "fail") for number, _ in run.waiting() if number % 2 == 0])
            self.assertEqual(len(run.record()), len(run.plan.calls()))
        run = begun("retry 2 1000000000 retry 4 0 call a")
        for time in [1, 2, 3, 4, 10**9 + 5, 10**9 + 6]:
            run.close(time, [(run.waiting()[0][0], "fail")] if run.waiting() else [(4, "fail")])
        self.check(run, None, [(0, "fail", 1), (1, "fail", 2), (2, "fail", 3), (3, "fail", 4),
                               (10**9 + 4, "fail", 10**9 + 5), (10**9 + 5, "fail", 10**9 + 6), (10**9 + 6,), None])

    def test_errors_of_plans(self):
        for text in ("hole", "within ? call a", "(call a then (hole both within ? hole))"):
            self.assertEqual(error_of(begun, text), ("HasHole",))
        for text in one_too_large():
            self.assertEqual(error_of(begun, text), ("TooLarge",), text)
            self.assertEqual(error_of(begun, f"({text} then hole)"), ("HasHole",), text)
            self.assertEqual(error_of(begun, f"within ? {text}"), ("HasHole",), text)

    def test_runs_do_not_touch_each_other(self):
        plan = Plan.parse("(call a then call b)")
        first, second = Run(plan), Run(plan)
        first.close(3, [(0, "ok")])
        self.check(second, None, [(0,), None])
        self.assertEqual(second.time, 0)


class CloseTest(unittest.TestCase):
    def refuse(self, run, time, replies, wanted):
        before, kept = told(run), copy.deepcopy(replies)
        for _ in range(2):
            self.assertEqual(error_of(run.close, time, replies), wanted, (time, replies))
            self.assertEqual(told(run), before)
            self.assertEqual(replies, kept)

    def test_bad_times(self):
        run = begun("(call a both call b)")
        for time in (0, -1, -10**20):
            self.refuse(run, time, [], ("BadTime", time))
        run.close(7, [(1, "ok")])
        for time in (7, 6, 1, 0, -1):
            self.refuse(run, time, [], ("BadTime", time))
            self.refuse(run, time, [(5, "ok")], ("BadTime", time))

    def test_times_of_other_kinds(self):
        run = begun("(call a both call b)")
        for time in any_values() + ["1", "5", [5], (5,), {"5": 5}]:
            if isinstance(time, int) and not isinstance(time, bool) and time > 0:
                continue
            for replies in ([], [(0, "ok")], [(9, "ok")]):
                before = told(run)
                with self.assertRaises(BadTime) as caught:
                    run.close(time, replies)
                self.assertIs(caught.exception.time, time)
                self.assertEqual(told(run), before)

    def test_numbers_of_no_call(self):
        run = begun("(call a both call b)")
        for number in (2, 3, -1, -2, 10**30, -10**30):
            self.refuse(run, 5, [(number, "ok")], ("BadReply", number))
            self.refuse(run, 5, [(0, "ok"), (number, "fail"), (77, "ok")], ("BadReply", number))

    def test_bools_are_no_numbers(self):
        run = begun("(call a both call b)")
        for number in (True, False):
            with self.assertRaises(BadReply) as caught:
                run.close(5, [(number, "ok")])
            self.assertIs(caught.exception.number, number)

    def test_calls_that_do_not_wait_yet(self):
        run = begun("(call a then (pause 5 then call b))")
        self.refuse(run, 5, [(1, "ok")], ("BadReply", 1))
        self.refuse(run, 5, [(0, "ok"), (1, "ok")], ("BadReply", 1))
        run.close(2, [(0, "ok")])
        for time in (3, 6, 7):
            self.refuse(run, time, [(1, "ok")], ("BadReply", 1))
        run.close(8, [(1, "ok")])
        self.assertEqual(run.record(), [(0, "ok", 2), (7, "ok", 8)])

    def test_calls_that_wait_no_longer(self):
        run = begun("(within 5 call a both call b)")
        run.close(3, [(1, "ok")])
        self.refuse(run, 4, [(1, "ok")], ("BadReply", 1))
        self.refuse(run, 6, [(0, "ok")], ("BadReply", 0))
        self.refuse(run, 600, [(0, "ok")], ("BadReply", 0))
        run.close(5, [(0, "ok")])
        self.refuse(run, 6, [(0, "ok")], ("BadReply", 0))
        self.assertEqual(run.outcome(), ("ok", 5))

    def test_given_before_in_the_list(self):
        run = begun("(call a both call b)")
        self.refuse(run, 4, [(0, "ok"), (0, "ok")], ("BadReply", 0))
        self.refuse(run, 4, [(1, "ok"), (0, "fail"), (1, "fail"), (0, "ok")], ("BadReply", 1))
        self.refuse(run, 4, [(1, "ok"), (1, "ok"), (9, "ok")], ("BadReply", 1))
        self.refuse(run, 4, [(9, "ok"), (1, "ok"), (1, "ok")], ("BadReply", 9))

    def test_the_list_may_change_later(self):
        run = begun("(call a both call b)")
        replies = [(0, "ok")]
        run.close(4, replies)
        replies[0] = (0, "fail")
        replies.append((1, "ok"))
        self.assertEqual(run.record(), [(0, "ok", 4), (0,)])

    def test_against_stepping(self):
        source = random.Random(86)
        refused = 0
        for tree in reference.some_trees(87, 300, 6, NUMBERS, depth=4):
            run, stepper = Run(Plan.parse(trees.text_of(tree))), stepping.Stepper(tree)
            for _ in range(6):
                time = run.time + source.choice([1, 2, 4])
                stepper.close(time - 1, [])
                numbers = [source.randint(-1, 7) for _ in range(source.randint(0, 3))]
                replies = [(number, source.choice(["ok", "fail"])) for number in numbers]
                waiting = [number for number, _ in stepper.waiting()]
                bad = [number for place, number in enumerate(numbers)
                       if number not in waiting or number in numbers[:place]]
                before = told(run)
                found = error_of(run.close, time, replies)
                self.assertEqual(found, ("BadReply", bad[0]) if bad else None, (tree, time, replies))
                if bad:
                    refused += 1
                    self.assertEqual(told(run), before)
                    run.close(time, [])
                stepper.close(time, [] if bad else replies)
                self.assertEqual(run.record(), stepper.record())
        self.assertGreater(refused, 300)


class PossibleTest(unittest.TestCase):
    def worlds(self, tree, contracts, run):
        """Returns the replies that agree with the run for each call, and the worlds of them."""
        sets = [[reply for reply in reference.replies(contracts[name]) if stepping.agrees(reply, item, run.time)]
                for name, item in zip(trees.services(tree), run.record())]
        return sets, itertools.product(*sets)

    def check(self, tree, contracts, run):
        sets, worlds = self.worlds(tree, contracts, run)
        if not all(sets):
            found = error_of(run.possible, contracts)
            self.assertEqual(found, ("Broken", [bool(some) for some in sets].index(False)), (tree, run.record()))
            return "broken"
        plain = trees.written_out(tree)
        wanted = {reference.outcome_of_form(plain, iter(world)) for world in worlds}
        self.assertEqual(reference.as_set(run.possible(contracts)), wanted, (tree, run.time, run.record()))
        if run.outcome() is not None:
            self.assertEqual(wanted, {run.outcome()})
        return "ended" if run.outcome() is not None else "open"

    def test_against_all_worlds(self):
        source = random.Random(88)
        found = []
        for tree in reference.some_trees(89, 400, 4, NUMBERS, depth=4):
            run = Run(Plan.parse(trees.text_of(tree)))
            for _ in range(6):
                found.append(self.check(tree, CONTRACTS, run))
                kept = source.choice([True, True, True, False])
                time = run.time + source.choice([1, 1, 2, 3])
                replies = []
                for number, start in run.waiting():
                    allowed = [reply for reply in reference.replies(CONTRACTS[trees.services(tree)[number]])
                               if reply != NEVER and reply[1] == time - start]
                    if kept and allowed:
                        replies.append((number, source.choice(allowed)[0]))
                    elif not kept and source.random() < 0.5:
                        replies.append((number, "ok"))
                if error_of(run.close, time, replies) is not None:
                    run.close(time, [])
            found.append(self.check(tree, CONTRACTS, run))
        for kind in ("broken", "open", "ended"):
            self.assertGreater(found.count(kind), 100, kind)

    def test_at_the_beginning_like_the_plan(self):
        run = begun("(call a else call b)")
        found = run.possible(contracts=CONTRACTS)
        self.assertEqual([found.ok.ranges, found.fail.ranges, found.never], [((1, 6),), ((7, 9),), True])
        self.assertEqual(run.possible(CONTRACTS), found)

    def test_broken_by_a_reply(self):
        for time, word, broken in [(3, "ok", False), (4, "ok", True), (4, "fail", False), (1, "fail", True)]:
            run = begun("call a")
            run.close(time, [(0, word)])
            self.assertEqual(error_of(run.possible, CONTRACTS), ("Broken", 0) if broken else None, (time, word))

    def test_broken_by_waiting(self):
        for name, last in [("a", 3), ("c", 1)]:
            run = begun(f"call {name}")
            run.close(last, [])
            self.assertIsNone(error_of(run.possible, CONTRACTS))
            run.close(last + 1, [])
            for _ in range(2):
                self.assertEqual(error_of(run.possible, CONTRACTS), ("Broken", 0))
        run = begun("call b")
        run.close(10**9, [])
        found = run.possible(CONTRACTS)
        self.assertEqual((found.ok.ranges, found.fail.ranges, found.never), ((), (), True))

    def test_broken_before_it_was_cancelled(self):
        for limit, broken in [(3, False), (4, True)]:
            run = begun(f"within {limit} call a")
            run.close(20, [])
            self.assertEqual(error_of(run.possible, CONTRACTS), ("Broken", 0) if broken else None, limit)

    def test_first_broken_call(self):
        run = begun("(call a both (call c both call a))")
        run.close(5, [(2, "ok")])
        self.assertEqual(error_of(run.possible, CONTRACTS), ("Broken", 0))
        run = begun("(call b both (call c both call a))")
        run.close(5, [(2, "ok")])
        self.assertEqual(error_of(run.possible, CONTRACTS), ("Broken", 1))
        self.assertEqual(error_of(run.possible, dict(reversed(list(CONTRACTS.items())))), ("Broken", 1))

    def test_unknown_services(self):
        run = begun("(call a both (call x then (call y both call x)))")
        self.assertEqual(error_of(run.possible, CONTRACTS), ("UnknownService", "x"))
        self.assertEqual(error_of(run.possible, {"x": CONTRACTS["b"], **CONTRACTS}), ("UnknownService", "y"))
        run.close(9, [])
        # The first call has broken its contract, but the services come first.
        self.assertEqual(error_of(run.possible, CONTRACTS), ("UnknownService", "x"))
        known = {"y": CONTRACTS["a"], "x": CONTRACTS["a"], **CONTRACTS}
        self.assertEqual(error_of(run.possible, known), ("Broken", 0))
        self.assertEqual(error_of(run.possible, {}), ("UnknownService", "a"))

    def test_contracts_stay_as_they_are(self):
        contracts = dict(CONTRACTS)
        run = begun("(call a both call b)")
        first = run.possible(contracts)
        self.assertEqual(contracts, CONTRACTS)
        self.assertEqual(list(contracts), list(CONTRACTS))
        contracts["a"] = Contract(ok=(9, 9))
        self.assertEqual(run.possible(CONTRACTS), first)
        self.assertNotEqual(run.possible(contracts), first)

    def test_great_plans(self):
        wide = {"a": Contract(ok=(1, 10**6), fail=(1, 10**6), hang=True)}
        run = begun("retry 2 1000000000 retry 4 1000000000 call a")
        found = run.possible(wide)
        self.assertEqual(found.ok.greatest(), 7 * 10**9 + 8 * 10**6)
        self.assertEqual(len(found.ok.ranges), 8)
        run.close(10**6, [(0, "fail")])
        run.close(10**9 + 2 * 10**6, [(1, "fail")])
        found = run.possible(wide)
        self.assertEqual(found.ok.least(), 2 * 10**9 + 2 * 10**6 + 1)
        self.assertEqual(found.fail.greatest(), 7 * 10**9 + 8 * 10**6)
        for text in just_small():
            run = begun(text)
            while run.waiting() and run.time < 10**7:
                run.possible(wide)
                run.close(run.time + 1, [(number, "fail") for number, _ in run.waiting()])
                run.possible(wide)
                run.close(run.time + 10**6 - 1, [])
            run.possible(wide)


if __name__ == "__main__":
    unittest.main()
