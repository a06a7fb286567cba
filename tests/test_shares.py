import random
import unittest
from fractions import Fraction

import replysets
from callplans.bound import Bound, bound_by
from callplans.contracts import Contract
from callplans.counts import Counts
from callplans.outcomes import Outcomes
from callplans.plans import Plan
from callplans.shares import share_of, time_for
from callplans.times import Times
from checking import error_of
from replysets import made, outcomes_in, some_bounds, some_wanted, wide_sets
from sizes import just_small
from values import any_values

NEVER = ("never",)
M = 10**6
ALL = made([(0, 10**12)], [(0, 10**12)], True)


def told(fraction):
    """Returns a Fraction as a share."""
    return (fraction.numerator, fraction.denominator)


def some_bound():
    """Returns the bound plan of the example."""
    return bound_by(Plan.parse("(call a then call b)"), {"a": Contract(ok=(1, 3)), "b": Contract(ok=(1, 3))})


class ShareTest(unittest.TestCase):
    def test_example(self):
        bound = some_bound()
        found = [share_of(bound, Outcomes(Times([(0, 4)]), Times([]), False)), time_for(bound, (1, 2)),
                 time_for(bound, (1, 1))]
        self.assertEqual(found, [(2, 3), 4, 6])

    def test_against_all_worlds(self):
        source, found = random.Random(241), []
        for tree, bound in some_bounds(source, 242, 500, 4, depth=4):
            ends = replysets.outcomes_of(tree, bound.replies())
            some = source.sample(sorted(set(ends), key=str), 1)
            for wanted in (some_wanted(source), some_wanted(source), outcomes_in(some), made(), ALL):
                share = told(Fraction(sum(end in wanted for end in ends), len(ends)))
                self.assertEqual(share_of(bound, wanted), share, tree)
                found.append(share)
                # All outcomes are wanted exactly if their share is 1.
                self.assertEqual(bound.outcomes().is_within(wanted), share == (1, 1))
        self.assertGreater(len(set(found)), 50)

    def test_kinds_and_names(self):
        bound = some_bound()
        for wanted, share in [(made(), (0, 1)), (ALL, (1, 1)), (made([(2, 2)]), (1, 9)), (made([(4, 4)]), (1, 3)),
                              (made([], [], True), (0, 1))]:
            found = share_of(wanted=wanted, bound=bound)
            self.assertEqual(found, share)
            self.assertEqual([type(found), type(found[0]), type(found[1])], [tuple, int, int])
        self.assertEqual(share_of(Bound(Plan.parse("fail"), []), made([], [(0, 0)])), (1, 1))
        self.assertEqual(share_of(Bound(Plan.parse("fail"), []), made([(0, 0)])), (0, 1))

    def test_great_numbers(self):
        chain = Plan.parse("(" + "call a then (" * 6 + "call a then call a" + ")" * 7)
        bound = Bound(chain, wide_sets(8, ("ok",)))
        self.assertEqual(share_of(bound, made([(8, 8)])), (1, M**8))
        self.assertEqual(share_of(bound, made([(0, 8 * M - 1)])), (M**8 - 1, M**8))
        self.assertEqual(share_of(bound, made([(0, 4 * M + 3)])), told(1 - share_as_fraction(bound, 4 * M + 4)))
        # The sums spread evenly around the middle.
        low, high = share_of(bound, made([(0, 3 * M)])), share_of(bound, made([(5 * M + 8, 8 * M)]))
        self.assertEqual(low, high)
        for text in just_small():
            plan = Plan.parse(text)
            bound = Bound(plan, wide_sets(len(plan.calls()), hang=True))
            self.assertEqual(share_of(bound, ALL), (1, 1))
            self.assertEqual(share_of(bound, bound.outcomes()), (1, 1))


def share_as_fraction(bound, time):
    """Returns the share of the worlds that end ok at a time or later, as a Fraction."""
    counts = Counts(bound)
    return Fraction(counts.all_worlds() - counts.ok_by(time - 1), counts.all_worlds())


class TimeForTest(unittest.TestCase):
    def wanted(self, ends, share, word):
        """Returns the time for a share of a list of outcomes, by going through all times."""
        times = sorted(end[1] for end in ends if end[0] == word or (word is None and end != NEVER))
        for time in [0, *times]:
            if Fraction(len([one for one in times if one <= time]), len(ends)) >= share:
                return time
        return None

    def test_against_all_worlds(self):
        source, found = random.Random(243), []
        for tree, bound in some_bounds(source, 244, 350, 4, depth=4):
            ends = replysets.outcomes_of(tree, bound.replies())
            near = [Fraction(source.randint(0, len(ends)), len(ends)) for _ in range(3)]
            near += [share + Fraction(sign, 3 * len(ends)) for share in near for sign in (1, -1)]
            shares = near + [Fraction(0), Fraction(1), Fraction(1, 2), Fraction(source.randint(0, 7), 7)]
            for share in [share for share in shares if 0 <= share <= 1]:
                for word in (None, "ok"):
                    time = self.wanted(ends, share, word)
                    self.assertEqual(time_for(bound, told(share), word=word), time, (tree, share, word))
                    found.append((word, time))
        for word in (None, "ok"):
            self.assertGreater(found.count((word, None)), 50)
            self.assertGreater(len({time for one, time in found if one == word}), 12)

    def test_shares_of_told_times(self):
        bound = some_bound()
        counts = Counts(bound)
        for time in range(2, 7):
            share = Fraction(counts.ok_by(time), 9)
            self.assertEqual(time_for(bound, told(share)), time)
            self.assertEqual(time_for(bound, told(share - Fraction(1, 100))), time)
            if time < 6:
                self.assertEqual(time_for(bound, told(share + Fraction(1, 100))), time + 1)

    def test_word_and_names(self):
        bound = Bound(Plan.parse("call a"), [made([(3, 4)], [(1, 2)], True)])
        self.assertEqual([time_for(bound, (top, 5)) for top in range(1, 5)], [1, 2, 3, 4])
        self.assertEqual([time_for(bound, (top, 5), word="ok") for top in range(1, 4)], [3, 4, None])
        self.assertEqual([time_for(bound, (1, 1)), time_for(bound, (1, 1), word="ok")], [None, None])
        self.assertEqual([time_for(bound, (0, 1)), time_for(bound, (0, 1), word="ok")], [0, 0])
        self.assertEqual(time_for(word="ok", share=(1, 5), bound=bound), 3)
        self.assertEqual(time_for(bound, (1, 5), word=None), 1)
        with self.assertRaises(TypeError):
            time_for(bound, (1, 5), "ok")
        hanging = Bound(Plan.parse("call a"), [made([], [], True)])
        self.assertEqual([time_for(hanging, (0, 1)), time_for(hanging, (1, 10**30))], [0, None])
        self.assertEqual(time_for(Bound(Plan.parse("pause 7"), []), (1, 10**30)), 7)

    def test_bad_shares(self):
        bound = some_bound()
        bad = [(2, 4), (0, 2), (2, 2), (0, 0), (1, 0), (0, -1), (-1, -2), (-1, 2), (1, -2), (3, 2), (2, 1), (10, 9),
               (True, 1), (1, True), (0, True), (False, 1), [1, 2], ["1", "2"], "1/2", ("1", 2), (1, "2"), (1, None),
               (None, None), (1,), (1, 2, 3), (1, 2, 2), (), 1, 0, 2, None, True, {1: 2}, ((1, 2),), [(1, 2)],
               (1, (2,)), ([1], 2), (10**30, 10**29)]
        for value in bad + any_values():
            for word in (None, "ok"):
                for _ in range(2):
                    self.assertEqual(error_of(time_for, bound, value, word=word), ("BadShare",), value)
        self.assertIsNone(error_of(time_for, bound, (0, 1)))
        self.assertIsNone(error_of(time_for, bound, (1, 1)))
        self.assertIsNone(error_of(time_for, bound, (10**29, 10**30 + 1)))

    def test_great_numbers(self):
        one = Bound(Plan.parse("call a"), wide_sets(1, ("ok",)))
        for share, time in [((1, 2), 500000), ((1, 3), 333334), ((2, 3), 666667), ((1, M), 1), ((1, M + 1), 1),
                            ((1, M - 1), 2), ((M - 1, M), M - 1), ((1, 1), M), ((0, 1), 0)]:
            self.assertEqual(time_for(one, share), time)
        pause = Bound(Plan.parse("(pause 1000000000 then call a)"), wide_sets(1, ("ok",)))
        self.assertEqual(time_for(pause, (1, 2)), 10**9 + 500000)
        for text in just_small():
            plan = Plan.parse(text)
            bound = Bound(plan, wide_sets(len(plan.calls()), hang=True))
            counts = Counts(bound)
            for share in ((0, 1), (1, 10**40), (1, 3), (1, 2), (999, 1000), (1, 1)):
                for word in (None, "ok"):
                    time = time_for(bound, share, word=word)
                    self.check_time(counts, share, word, time)

    def check_time(self, counts, share, word, time):
        """Checks that a time is the least one by which a share has ended."""
        def enough(last):
            ended = counts.ok_by(last) + (counts.fail_by(last) if word is None else 0)
            return Fraction(ended, counts.all_worlds()) >= Fraction(*share)
        if time is None:
            self.assertFalse(enough(10**12))
        else:
            self.assertTrue(enough(time))
            self.assertFalse(time > 0 and enough(time - 1))


if __name__ == "__main__":
    unittest.main()
