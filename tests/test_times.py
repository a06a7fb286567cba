import copy
import itertools
import unittest

from callplans.errors import BadRange
from callplans.times import Times, times_before, times_outside
from values import any_values, nested_list, nested_tuple

GREAT = 10**30
ENDS = range(6)
SPANS = [(low, high) for low in ENDS for high in ENDS if low <= high]


def members(ranges):
    """Returns the set of all times in ranges."""
    return {time for low, high in ranges for time in range(low, high + 1)}


def fewest(times):
    """Returns the ranges of a set of small times, counted out one by one."""
    found = []
    for time in sorted(times):
        if time - 1 in times:
            found[-1] = (found[-1][0], time)
        else:
            found.append((time, time))
    return tuple(found)


def some_lists():
    """Returns a list of ranges for each set of times from 0 to 5."""
    subsets = [[time for time in ENDS if bits >> time & 1] for bits in range(2 ** len(ENDS))]
    return [[(time, time) for time in times] for times in subsets]


class RangesTest(unittest.TestCase):
    def test_example(self):
        times = Times([(5, 7), (1, 2)]) | Times([(3, 3)])
        found = [times.ranges, (times + Times([(10, 10)])).ranges, 4 in times]
        self.assertEqual(found, [((1, 3), (5, 7)), ((11, 13), (15, 17)), False])

    def test_every_list_of_up_to_three_small_ranges(self):
        for many in range(4):
            for ranges in itertools.product(SPANS, repeat=many):
                self.assertEqual(Times(list(ranges)).ranges, fewest(members(ranges)), ranges)

    def test_overlapping_touching_inner_and_separate_ranges(self):
        cases = [
            ([], ()),
            ([(0, 0)], ((0, 0),)),
            ([(1, 4), (3, 6)], ((1, 6),)),
            ([(4, 6), (1, 3)], ((1, 6),)),
            ([(5, 6), (1, 3)], ((1, 3), (5, 6))),
            ([(1, 9), (3, 4)], ((1, 9),)),
            ([(3, 4), (1, 9), (8, 9), (1, 2)], ((1, 9),)),
            ([(2, 2), (2, 2), (2, 2)], ((2, 2),)),
            ([(1, 9), (2, 3), (5, 6), (8, 12), (14, 15)], ((1, 12), (14, 15))),
            ([(GREAT, GREAT + 5), (0, 1), (GREAT + 6, 2 * GREAT)], ((0, 1), (GREAT, 2 * GREAT))),
            ([(GREAT + 1, GREAT + 1), (GREAT - 1, GREAT - 1)], ((GREAT - 1, GREAT - 1), (GREAT + 1, GREAT + 1))),
        ]
        for ranges, wanted in cases:
            for order in itertools.permutations(ranges):
                self.assertEqual(Times(list(order)).ranges, wanted)

    def test_ranges_by_name(self):
        self.assertEqual(Times(ranges=[(2, 3)]).ranges, ((2, 3),))

    def test_ranges_are_tuples_of_tuples(self):
        made = [
            Times([]), Times([(1, 2)]), Times([(1, 2)]) | Times([(5, 6)]), Times([(1, 9)]) & Times([(5, 6)]),
            Times([(1, 2)]) + Times([(5, 6)]), Times([(1, 9)]).up_to(3), Times([(1, 9)]).since(3),
        ]
        for times in made:
            self.assertIs(type(times), Times)
            self.assertIs(type(times.ranges), tuple)
            self.assertTrue(all(type(span) is tuple for span in times.ranges))

    def test_many_ranges(self):
        many = [(4 * k, 4 * k + 1) for k in range(5000)]
        even = Times(many[::-1])
        self.assertEqual(even.ranges, tuple(many))
        odd = Times([(4 * k + 2, 4 * k + 3) for k in range(5000)])
        self.assertEqual((even | odd).ranges, ((0, 19999),))
        self.assertEqual((even & odd).ranges, ())
        self.assertEqual((even & Times([(5, 8)])).ranges, ((5, 5), (8, 8)))


class BadRangeTest(unittest.TestCase):
    def check_bad(self, value):
        with self.assertRaises(BadRange):
            Times(value)

    def test_values_that_are_no_lists_of_ranges(self):
        for value in any_values():
            self.check_bad(value)

    def test_other_containers(self):
        for value in [((1, 2),), ((1, 2), (3, 4)), (1, 2), {(1, 2): (3, 4)}, {0: (1, 2)}, "12"]:
            self.check_bad(value)

    def test_lists_with_something_that_is_no_range(self):
        wrong = [
            (2, 1), (1, 0), (-1, 0), (-1, 5), (-3, -2), (GREAT, GREAT - 1), (True, 2), (0, True), (False, False),
            (False, 0), (1, None), (None, 1), ("1", "2"), (1, "2"), ((1,), (2,)), ([1], [2]), ({}, {}), (1,),
            (1, 2, 3), (), [1, 2], {1: 2}, "12", None, True, 7, Times([(1, 2)]), nested_tuple(48, 1),
            nested_list(48, (1, 2)), (nested_list(40, 1), 2), (1, nested_tuple(40, 2)),
        ]
        for value in wrong:
            self.check_bad([value])
            self.check_bad([(1, 2), value])
            self.check_bad([value, (0, 0)])

    def test_zero_is_a_time_and_what_is_below_is_none(self):
        self.assertEqual(Times([(0, 0)]).ranges, ((0, 0),))
        self.check_bad([(-1, -1)])

    def test_the_list_stays_as_it_was(self):
        for value in [[(5, 7), (1, 2), (2, 3)], [(5, 7), (2, 1), [3]]]:
            before = copy.deepcopy(value)
            try:
                Times(value)
            except BadRange:
                pass
            self.assertEqual(value, before)

    def test_later_changes_of_the_list_have_no_effect(self):
        ranges = [(5, 7), (1, 2)]
        times = Times(ranges)
        ranges.append((100, 200))
        ranges[0] = (0, 0)
        self.assertEqual(times.ranges, ((1, 2), (5, 7)))
        ranges.clear()
        self.assertEqual(times, Times([(1, 2), (5, 7)]))


class OperatorTest(unittest.TestCase):
    def test_union_intersection_and_sums_of_small_sets(self):
        lists = some_lists()
        for first, second in itertools.product(lists, repeat=2):
            one, other = Times(first), Times(second)
            some, more = members(first), members(second)
            self.assertEqual((one | other).ranges, fewest(some | more))
            self.assertEqual((one & other).ranges, fewest(some & more))
            self.assertEqual((one + other).ranges, fewest({a + b for a in some for b in more}))
            self.assertIs(one == other, some == more)
            self.assertIs(one != other, some != more)
            self.assertIs(one.is_within(other), some <= more)

    def test_operators_do_not_change_their_sets(self):
        one, other = Times([(1, 2), (8, 9)]), Times([(2, 5)])
        for made in (one | other, one & other, one + other):
            self.assertNotEqual(made, one)
        one.up_to(1)
        one.since(9)
        self.assertEqual([one.ranges, other.ranges], [((1, 2), (8, 9)), ((2, 5),)])

    def test_great_times(self):
        one = Times([(0, GREAT)])
        other = Times([(GREAT, 2 * GREAT), (4 * GREAT, 5 * GREAT)])
        self.assertEqual((one | other).ranges, ((0, 2 * GREAT), (4 * GREAT, 5 * GREAT)))
        self.assertEqual((one & other).ranges, ((GREAT, GREAT),))
        self.assertEqual((one + other).ranges, ((GREAT, 3 * GREAT), (4 * GREAT, 6 * GREAT)))

    def test_sums_that_touch(self):
        self.assertEqual((Times([(0, 0), (3, 3)]) + Times([(1, 3)])).ranges, ((1, 6),))
        self.assertEqual((Times([(0, 0), (3, 3)]) + Times([(1, 2)])).ranges, ((1, 2), (4, 5)))

    def test_empty_set(self):
        empty, some = Times([]), Times([(3, 4)])
        self.assertEqual([(empty | some).ranges, (some | empty).ranges], [((3, 4),), ((3, 4),)])
        for made in (empty & some, some & empty, empty + some, some + empty, empty + empty, empty | empty):
            self.assertEqual(made.ranges, ())
        self.assertEqual([empty.least(), empty.greatest()], [None, None])
        self.assertEqual([empty.up_to(5).ranges, empty.since(-5).ranges], [(), ()])
        self.assertEqual([0 in empty, bool(empty), empty == Times([]), empty != Times([])], [False, False, True, False])
        self.assertEqual([empty.is_within(some), some.is_within(empty), empty.is_within(empty)], [True, False, True])

    def test_bool(self):
        self.assertIs(bool(Times([])), False)
        for ranges in ([(0, 0)], [(1, 1)], [(0, 5), (9, 9)], [(GREAT, GREAT)]):
            self.assertIs(bool(Times(ranges)), True)

    def test_in_at_and_beside_the_ends(self):
        times = Times([(0, 0), (3, 5), (GREAT, GREAT + 1)])
        inside = [0, 3, 4, 5, GREAT, GREAT + 1]
        outside = [-1, 1, 2, 6, -3, -4, -5, -GREAT, GREAT - 1, GREAT + 2]
        self.assertEqual([time in times for time in inside], [True] * len(inside))
        self.assertEqual([time in times for time in outside], [False] * len(outside))
        self.assertEqual([time not in times for time in (4, 6)], [False, True])

    def test_only_integers_belong_to_a_set(self):
        times = Times([(0, 3)])
        self.assertEqual([value in times for value in (True, False, None, "1", (1, 2))], [False] * 5)

    def test_no_other_value_is_equal(self):
        for times in (Times([]), Times([(1, 2)]), Times([(0, 0), (2, 3)])):
            for value in [*any_values(), list(times.ranges), times.ranges, str(times), object()]:
                self.assertIs(times == value, False)
                self.assertIs(times != value, True)
                self.assertIs(value == times, False)
                self.assertIs(value != times, True)

    def test_equal_sets_of_other_lists(self):
        self.assertTrue(Times([(1, 2), (3, 4)]) == Times([(2, 4), (1, 1)]))
        self.assertFalse(Times([(1, 2), (3, 4)]) != Times([(2, 4), (1, 1)]))
        self.assertFalse(Times([(1, 2)]) == Times([(1, 2), (4, 4)]))


class MethodTest(unittest.TestCase):
    def test_least_and_greatest(self):
        times = Times([(8, 9), (3, 5)])
        self.assertEqual([times.least(), times.greatest()], [3, 9])
        self.assertEqual([Times([(0, 0)]).least(), Times([(0, 0)]).greatest()], [0, 0])
        self.assertEqual(Times([(GREAT, 2 * GREAT)]).greatest(), 2 * GREAT)

    def test_up_to_and_since_of_small_sets(self):
        for ranges in some_lists():
            for time in range(-2, 8):
                times = Times(ranges)
                below = {each for each in members(ranges) if each <= time}
                above = {each for each in members(ranges) if each >= time}
                self.assertEqual(times.up_to(time).ranges, fewest(below))
                self.assertEqual(times.since(time).ranges, fewest(above))

    def test_up_to_and_since_at_and_beside_the_ends(self):
        times = Times([(3, 5), (8, 9)])
        up_to = {-GREAT: (), -1: (), 2: (), 3: ((3, 3),), 5: ((3, 5),), 6: ((3, 5),), 7: ((3, 5),),
                 8: ((3, 5), (8, 8)), 9: ((3, 5), (8, 9)), GREAT: ((3, 5), (8, 9))}
        since = {-GREAT: ((3, 5), (8, 9)), -1: ((3, 5), (8, 9)), 3: ((3, 5), (8, 9)), 4: ((4, 5), (8, 9)),
                 5: ((5, 5), (8, 9)), 6: ((8, 9),), 8: ((8, 9),), 9: ((9, 9),), 10: (), GREAT: ()}
        for time, wanted in up_to.items():
            self.assertEqual(times.up_to(time).ranges, wanted)
        for time, wanted in since.items():
            self.assertEqual(times.since(time=time).ranges, wanted)
        self.assertEqual(times.up_to(time=4).ranges, ((3, 4),))

    def test_is_within(self):
        times = Times([(3, 5), (8, 9)])
        within = [times, Times([(3, 9)]), Times([(0, 5), (7, 20)]), Times([(8, 9), (3, 5), (100, 100)])]
        others = [Times([(4, 9)]), Times([(3, 8)]), Times([(3, 5)]), Times([(3, 5), (8, 8)]), Times([(3, 4), (8, 9)])]
        self.assertEqual([times.is_within(other) for other in within], [True] * 4)
        self.assertEqual([times.is_within(other=other) for other in others], [False] * 5)


class FunctionTest(unittest.TestCase):
    def test_times_before(self):
        for ends, lengths in itertools.product(some_lists()[::3], some_lists()):
            wanted = {end - length for end in members(ends) for length in members(lengths) if end >= length}
            self.assertEqual(times_before(Times(ends), Times(lengths)).ranges, fewest(wanted))

    def test_times_before_of_wide_ranges(self):
        for (low, high), (least, most) in itertools.product(SPANS, repeat=2):
            found = times_before(Times([(low, high)]), Times([(least, most)]))
            wanted = {end - length for end in range(low, high + 1) for length in range(least, most + 1) if end >= length}
            self.assertEqual(found.ranges, fewest(wanted))

    def test_times_outside(self):
        for ranges in some_lists():
            for most in range(8):
                wanted = {time for time in range(most + 1) if time not in members(ranges)}
                self.assertEqual(times_outside(Times(ranges), most).ranges, fewest(wanted))
        found = times_outside(Times([(3, GREAT), (GREAT + 2, 3 * GREAT)]), 2 * GREAT)
        self.assertEqual(found.ranges, ((0, 2), (GREAT + 1, GREAT + 1)))


if __name__ == "__main__":
    unittest.main()
