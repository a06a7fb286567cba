"""The part of good numbers that tells which outcomes of a hole are harmful."""

import itertools
import random
import unittest

import reference
import trees
from callplans.contracts import Contract
from callplans.forms import HOLE, ends_of, written_out
from callplans.harm import harmful
from callplans.outcomes import Outcomes, replies_under
from callplans.plans import Plan
from callplans.times import Times
from holes import filled, with_hole

NEVER = ("never",)
CONTRACTS = {
    "a": Contract(ok=(1, 3), fail=(2, 4)), "b": Contract(ok=(2, 2), fail=(5, 5), hang=True), "c": Contract(fail=(1, 2)),
}
AT_HOLE = [(word, time) for word in ("ok", "fail") for time in range(16)] + [NEVER]


def some_wanted(source):
    """Returns a set of wanted outcomes; source is a random.Random."""
    starts = [source.randint(0, 12) for _ in range(4)]
    spans = [(start, start + source.choice([0, 0, 1, 3, 8])) for start in starts]
    return Outcomes(Times(spans[:source.randint(0, 2)]), Times(spans[source.randint(2, 4):]), source.random() < 0.5)


def harm_of(tree, wanted, most):
    """Returns the harmful outcomes of the hole of a tree as a set."""
    forms = written_out(Plan.parse(trees.text_of(tree)).forms)
    return reference.as_set(harmful(forms, replies_under(forms, CONTRACTS), wanted, most))


def all_but(outcome):
    """Returns the set of all outcomes with times up to 200 but one."""
    ok = [time for time in range(201) if outcome != ("ok", time)]
    fail = [time for time in range(201) if outcome != ("fail", time)]
    return Outcomes(Times([(time, time) for time in ok]), Times([(time, time) for time in fail]), outcome != NEVER)


class HarmfulTest(unittest.TestCase):
    def leads(self, tree):
        """Returns for each outcome of the hole the set of all outcomes to which it leads."""
        plain = trees.written_out(filled(tree))
        choices = [[None] if name == "h" else reference.replies(CONTRACTS[name]) for name in trees.services(plain)]
        worlds = list(itertools.product(*choices))
        return {end: {reference.outcome_of_form(plain, iter([end if reply is None else reply for reply in world]))
                      for world in worlds} for end in AT_HOLE}

    def test_against_all_worlds(self):
        source = random.Random(31)
        for some in reference.some_trees(32, 150, 3, [0, 1, 2, 3, 5, 8], depth=4):
            tree = source.choice(with_hole(some))
            leads = self.leads(tree)
            for _ in range(12):
                wanted = some_wanted(source)
                harm = {end for end in AT_HOLE if any(outcome not in wanted for outcome in leads[end])}
                told = [tree, wanted.ok.ranges, wanted.fail.ranges, wanted.never]
                self.assertEqual(harm_of(tree, wanted, 15), harm, told)

    def test_one_unwanted_outcome_with_each_kind_of_part_beside_the_hole(self):
        late = ("then", ("pause", 6), ("call", "a"))
        parts = [("call", "a"), ("call", "b"), ("call", "c"), ("fail",), ("pause", 3), ("else", ("call", "a"), late),
                 ("then", ("call", "a"), late), ("then", ("call", "b"), ("fail",)), ("else", ("call", "b"), ("pause", 3)),
                 ("either", ("call", "b"), ("call", "c")), ("then", ("either", ("call", "b"), ("call", "c")), ("fail",)),
                 ("either", ("call", "b"), ("fail",)), ("retry", 2, 3, ("call", "c")),
                 ("then", ("else", ("call", "a"), ("then", ("pause", 6), ("fail",))), ("fail",))]
        around = [(word, HOLE, part) for word in trees.PAIRS for part in parts]
        around += [(word, part, HOLE) for word in trees.PAIRS for part in parts]
        around += [("within", limit, HOLE) for limit in (0, 5, 14, 15, 16, 40)]
        for tree in around:
            leads = self.leads(tree)
            for outcome in {outcome for some in leads.values() for outcome in some}:
                harm = {end for end in AT_HOLE if outcome in leads[end]}
                self.assertEqual(harm_of(tree, all_but(outcome), 15), harm, (tree, outcome))

    def test_times_at_the_end(self):
        for limit in (5, 10**9):
            wanted = Outcomes(Times([(0, limit)]), Times([(0, limit - 1)]), True)
            self.assertEqual(harm_of(("within", limit, HOLE), wanted, 0), {NEVER})


class FormsTest(unittest.TestCase):
    def test_written_out(self):
        for tree in trees.some_trees()[::3] + [("retry", 1, 0, ("hole",)), ("retry", 3, 7, ("within", "?", ("call", "a")))]:
            if trees.size(tree)[2] <= 500:
                plan = Plan.parse(trees.text_of(tree))
                wanted = Plan.parse(trees.text_of(trees.written_out(tree)))
                self.assertEqual(written_out(plan.forms), wanted.forms)

    def test_ends(self):
        forms = Plan.parse("((call a then within 3 fail) else retry 2 1 (hole both pause 3))").forms
        self.assertEqual([" ".join(map(str, form)) for form in forms],
                         ["else", "then", "call a", "within 3", "fail", "retry 2 1", "both", "hole", "pause 3"])
        self.assertEqual(ends_of(forms), [9, 5, 3, 5, 5, 9, 9, 8, 9])


if __name__ == "__main__":
    unittest.main()
