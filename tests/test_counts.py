import random
import unittest
from math import comb

import reference
import replysets
import trees
from callplans.bound import Bound, bound_by
from callplans.contracts import Contract
from callplans.counts import Counts
from callplans.outcomes import Outcomes
from callplans.plans import Plan
from callplans.times import Times
from replysets import made, some_bounds, some_wanted, wide_sets
from sizes import just_small

NEVER = ("never",)
M = 10**6
ALL = made([(0, 10**12)], [(0, 10**12)], True)


def chain(word, many):
    """Returns the text of that many calls with a word between them."""
    return f"(call a {word} " * (many - 1) + "call a" + ")" * (many - 1)


def sums_up_to(many, time):
    """Returns how many tuples of that many numbers from 1 to M have a sum of at most a time."""
    return sum((-1)**over * comb(many, over) * comb(time - over * M, many)
               for over in range(many + 1) if time >= over * M)


def wide(text, **words):
    """Returns the counts of the plan of a text, whose calls have all replies of words."""
    plan = Plan.parse(text)
    return Counts(Bound(plan, wide_sets(len(plan.calls()), **words)))


def told(counts, times, sets):
    """Returns all that counts tell, for these times and sets of outcomes."""
    by_time = [(counts.ok_by(time), counts.fail_by(time)) for time in times]
    return [counts.all_worlds(), counts.endless(), by_time, [counts.within(some) for some in sets]]


def sums_of(one, other):
    """Returns the sums of what two counts have told."""
    if isinstance(one, int):
        return one + other
    return type(one)(sums_of(*pair) for pair in zip(one, other))


class SmallTest(unittest.TestCase):
    def check(self, tree, bound, sets):
        ends = replysets.outcomes_of(tree, bound.replies())
        counts = Counts(bound)
        times = [*range(0, 34), 100, 10**9]
        wanted = [len(ends), ends.count(NEVER),
                  [tuple(sum(end[0] == word and end[1] <= time for end in ends) for word in ("ok", "fail"))
                   for time in times],
                  [sum(end in some for end in ends) for some in sets]]
        self.assertEqual(told(counts, times, sets), wanted, (tree, [reference.as_set(some) for some in bound.replies()]))
        self.assertEqual(counts.all_worlds(), bound.worlds())

    def test_against_all_worlds(self):
        source = random.Random(221)
        for tree, bound in some_bounds(source, 222, 400, 4, depth=4):
            self.check(tree, bound, [some_wanted(source) for _ in range(3)] + [made(), ALL])

    def test_each_form_around_each_form(self):
        source = random.Random(223)
        leaves = [("call", "a"), ("within", 3, ("call", "b")), ("pause", 2), ("fail",), ("retry", 2, 1, ("call", "c"))]
        inner = [(word, one, two) for word in trees.PAIRS for one in leaves for two in leaves]
        for word in trees.PAIRS:
            for tree in source.sample(inner, 25):
                for around in ((word, tree, source.choice(leaves)), ("within", 4, (word, source.choice(leaves), tree))):
                    sets = replysets.some_sets(source, len(trees.services(around)), 3)
                    self.check(around, Bound(replysets.plan_of(around), sets), [some_wanted(source)])

    def test_example(self):
        plan = Plan.parse("(call a then call b)")
        few = Counts(bound_by(plan, {"a": Contract(ok=(1, 3)), "b": Contract(ok=(1, 3))}))
        many = Counts(bound_by(plan, {"a": Contract(ok=(1, 10**6)), "b": Contract(ok=(1, 10**6), hang=True)}))
        found = [few.all_worlds(), few.ok_by(4), many.all_worlds(), many.ok_by(10**6), many.endless()]
        self.assertEqual(found, [9, 6, 1000001000000, 499999500000, 1000000])

    def test_without_calls(self):
        for text, end in [("pause 5", ("ok", 5)), ("fail", ("fail", 0)), ("within 3 pause 5", ("fail", 3)),
                          ("(pause 0 both pause 0)", ("ok", 0)), ("pause 1000000000", ("ok", 10**9))]:
            counts = Counts(Bound(Plan.parse(text), []))
            self.assertEqual((counts.all_worlds(), counts.endless()), (1, 0))
            by = {"ok": counts.ok_by, "fail": counts.fail_by}
            for word in by:
                self.assertEqual(by[word](end[1]), 1 if word == end[0] else 0)
                self.assertEqual(by[word](10**12), 1 if word == end[0] else 0)
                if end[1] > 0:
                    self.assertEqual(by[word](end[1] - 1), 0)
                    self.assertEqual(by[word](0), 0)

    def test_replies_that_do_not_matter_count(self):
        some = made([(1, 2)], [(5, 9)], True)
        for text, worlds in [("(fail then call a)", 8), ("(pause 0 else call a)", 8), ("(pause 0 either call a)", 8),
                             ("within 0 (call a both call a)", 64), ("(fail both (call a then call a))", 64)]:
            plan = Plan.parse(text)
            counts = Counts(Bound(plan, [some] * len(plan.calls())))
            self.assertEqual(counts.all_worlds(), worlds)
            self.assertEqual(counts.ok_by(0) + counts.fail_by(0), worlds)

    def test_names(self):
        bound = Bound(Plan.parse("call a"), [made([(1, 3)], [(2, 2)])])
        counts = Counts(bound=bound)
        self.assertEqual([counts.ok_by(time=2), counts.fail_by(time=2)], [2, 1])
        self.assertEqual(counts.within(outcomes=made([(3, 9)], [(2, 3)])), 2)

    def test_asked_again(self):
        source = random.Random(224)
        bounds = [bound for _, bound in some_bounds(source, 225, 30, 5, depth=4)]
        times, sets = [0, 3, 5, 9, 2, 40], [some_wanted(source) for _ in range(3)]
        counts = [Counts(bound) for bound in bounds]
        first = [told(one, times, sets) for one in counts]
        self.assertEqual([told(one, times[::-1], sets) for one in counts],
                         [[*one[:2], one[2][::-1], one[3]] for one in first])
        self.assertEqual([told(Counts(bound), times, sets) for bound in bounds], first)
        self.assertEqual([told(one, times, sets) for one in counts[::-1]], first[::-1])


class DividedTest(unittest.TestCase):
    """The two facts that determine all numbers of worlds, for great sets of replies."""

    def halves(self, source, some):
        """Returns two sets of replies that make up a set, or None if it has one reply."""
        cuts = [("ok", span[0] + number) for span in some.ok.ranges for number in (0, (span[1] - span[0]) // 2)]
        cuts += [("fail", span[0] + number) for span in some.fail.ranges for number in (0, (span[1] - span[0]) // 3)]
        for word, time in source.sample(cuts, len(cuts)) + [NEVER + (0,)]:
            if word == "never":
                one, other = Outcomes(some.ok, some.fail, False), made([], [], some.never)
            elif word == "ok":
                one = Outcomes(some.ok.up_to(time), Times([]), False)
                other = Outcomes(some.ok.since(time + 1), some.fail, some.never)
            else:
                one = Outcomes(some.ok, some.fail.up_to(time), some.never)
                other = Outcomes(Times([]), some.fail.since(time + 1), False)
            if one != some and other != some and all(half.ok or half.fail or half.never for half in (one, other)):
                return one, other
        return None

    def divide(self, source, text, bound, numbers):
        """Divides the sets of calls, one after the other, down to a single world."""
        sets = [some_wanted(source, numbers), made([(numbers // 3, numbers)], [(0, numbers // 2)], True), ALL]
        times = [0, 1, numbers // 3, numbers // 2, numbers, 10**12]
        whole = told(Counts(bound), times, sets)
        left = list(range(len(bound)))
        while left:
            number = source.choice(left)
            halves = self.halves(source, bound[number])
            if halves is None:
                left.remove(number)
                continue
            parts = [bound.with_replies(number, half) for half in halves]
            numbers_of = [told(Counts(part), times, sets) for part in parts]
            self.assertEqual(sums_of(*numbers_of), whole, text)
            chosen = source.randrange(2)
            bound, whole = parts[chosen], numbers_of[chosen]
        self.assertEqual(bound.worlds(), 1)
        found = bound.outcomes()
        by_time = [(int(bool(found.ok.up_to(time))), int(bool(found.fail.up_to(time)))) for time in times]
        self.assertEqual(whole, [1, int(found.never), by_time, [int(found.is_within(some)) for some in sets]])

    def test_all_replies(self):
        source = random.Random(226)
        for text in just_small() + [chain("either", 8), chain("both", 8), chain("else", 8)]:
            plan = Plan.parse(text)
            self.divide(source, text, Bound(plan, wide_sets(len(plan.calls()), hang=True)), 3 * M)

    def test_some_replies(self):
        source = random.Random(227)
        numbers = [0, 1, 1000, 400000, 10**6, 1500000, 10**9]
        for tree in reference.some_trees(228, 40, 6, numbers, depth=4):
            sets = []
            for _ in trees.services(tree):
                low, middle, high = sorted(source.sample(range(1, M), 3))
                sets.append(source.choice([made([(low, middle)], [(middle, high)]), made([(low, high)]),
                                           made([(low, middle), (middle + 2, high)]), made([], [(1, high)], True)]))
            self.divide(source, tree, Bound(replysets.plan_of(tree), sets), 2 * M)


class FormulaTest(unittest.TestCase):
    """Great sets of replies, where formulas tell the numbers."""

    def test_sums(self):
        for many in (1, 2, 3, 5, 8):
            counts = wide(chain("then", many), words=("ok",))
            self.assertEqual((counts.all_worlds(), counts.endless()), (M**many, 0))
            for time in (0, many - 1, many, 7, M - 1, M, M + 1, 2 * M, many * M // 2, many * M - 1, many * M, 10**12):
                self.assertEqual(counts.ok_by(time), sums_up_to(many, time), (many, time))
                self.assertEqual(counts.fail_by(time), 0)
            mirrored = wide(chain("else", many), words=("fail",))
            self.assertEqual(mirrored.fail_by(2 * M), sums_up_to(many, 2 * M))

    def test_latest_and_earliest_ends(self):
        for many in (1, 2, 5, 8):
            both, either = wide(chain("both", many), words=("ok",)), wide(chain("either", many), words=("ok",))
            failing = [wide(chain("both", many), words=("fail",)), wide(chain("either", many), words=("fail",))]
            for time in (0, 1, 77, M // 3, M - 1, M, M + 1, 10**12):
                latest, earliest = min(time, M)**many, M**many - max(0, M - time)**many
                self.assertEqual([both.ok_by(time), either.ok_by(time)], [latest, earliest])
                self.assertEqual([failing[0].fail_by(time), failing[1].fail_by(time)], [earliest, latest])

    def test_words(self):
        counts = wide(chain("both", 8))
        self.assertEqual(counts.all_worlds(), (2 * M)**8)
        self.assertEqual([counts.ok_by(M), counts.fail_by(M)], [M**8, (2 * M)**8 - M**8])
        for time in (1, 1000, M // 2, M - 1):
            self.assertEqual(counts.ok_by(time), time**8)
            self.assertEqual(counts.fail_by(time), (2 * M)**8 - (2 * M - time)**8)

    def test_never(self):
        counts = wide(chain("then", 3), hang=True)
        every = 2 * M + 1
        self.assertEqual(counts.endless(), every**2 + M * every + M**2)
        self.assertEqual(counts.ok_by(10**12), M**3)
        self.assertEqual(counts.fail_by(10**12), M * every**2 + M**2 * every + M**3)
        both = wide(chain("both", 8), hang=True)
        self.assertEqual(both.endless(), (M + 1)**8 - M**8)
        either = wide(chain("either", 8), hang=True)
        self.assertEqual(either.endless(), (M + 1)**8 - M**8)
        self.assertEqual(wide(chain("then", 8), words=(), hang=True).endless(), 1)

    def test_retries(self):
        counts = wide("retry 8 1000000000 call a")
        for tries in range(8):
            # Up to a time shortly behind the last try that begins, which ends at any time from its begin on.
            time = tries * 10**9 + 8 * M
            wanted = sum(M**(one + 1) * (2 * M)**(7 - one) for one in range(tries + 1))
            self.assertEqual(counts.ok_by(time), wanted)
        self.assertEqual(counts.fail_by(10**12), M**8)
        self.assertEqual(counts.fail_by(7 * 10**9 + M), sums_up_to(8, M))
        counts = wide("retry 4 0 (call a both call a)", words=("ok",))
        self.assertEqual((counts.ok_by(M // 2), counts.all_worlds()), ((M // 2)**2 * M**6, M**8))

    def test_withins(self):
        for limit in (0, 1, 1000, M - 1, M, M + 1, 3 * M, 10**9):
            counts = wide(f"within {limit} {chain('then', 8)}", words=("ok",))
            in_time = sums_up_to(8, limit)
            self.assertEqual([counts.ok_by(limit), counts.ok_by(10**12)], [in_time, in_time])
            self.assertEqual([counts.fail_by(limit), counts.fail_by(10**12)], [M**8 - in_time] * 2)
            self.assertEqual(counts.fail_by(limit - 1) if limit else 0, 0)
            self.assertEqual(counts.endless(), 0)
        counts = wide("within 500000 (call a then within 250000 (call a then call a))", words=("ok",))
        self.assertEqual(counts.ok_by(250000), sums_up_to(3, 250000))
        self.assertEqual(counts.ok_by(M) + counts.fail_by(M), M**3)

    def test_sets_of_outcomes(self):
        counts = wide(chain("then", 4), hang=True)
        self.assertEqual(counts.within(ALL), counts.all_worlds())
        self.assertEqual(counts.within(made()), 0)
        self.assertEqual(counts.within(made([], [], True)), counts.endless())
        some = made([(0, 10), (M, 2 * M)], [(5, 5)])
        wanted = sums_up_to(4, 10) + sums_up_to(4, 2 * M) - sums_up_to(4, M - 1)
        fails = counts.fail_by(5) - counts.fail_by(4)
        self.assertEqual(counts.within(some), wanted + fails)
        self.assertEqual(fails, (2 * M + 1)**3 + 4 * (2 * M + 1)**2 + 6 * (2 * M + 1) + 4)

    def test_great_plans_with_two_ranges(self):
        source = random.Random(229)
        for text in (chain("then", 8), f"within 4000000 {chain('then', 8)}", f"({chain('then', 7)} both call a)"):
            plan = Plan.parse(text)
            sets = []
            for _ in range(8):
                one, two, three, four = sorted(source.sample(range(1, M), 4))
                sets.append(made([(one, two), (three, four)]))
            bound = Bound(plan, sets)
            counts = Counts(bound)
            self.assertEqual(counts.ok_by(10**12) + counts.fail_by(10**12), bound.worlds())
            latest = bound.outcomes().latest()
            self.assertLess(counts.ok_by(latest - 1) + counts.fail_by(latest - 1), bound.worlds())
            self.assertEqual(counts.ok_by(bound.outcomes().ok.least() - 1), 0)


if __name__ == "__main__":
    unittest.main()
