import itertools
import unittest

import trees
from callplans.errors import InvalidText, NoHole, PlanError, TooLarge
from callplans.plans import Plan, plug
from callplans.times import Times
from values import any_values


def parsed(text):
    """Returns the plan of a text."""
    return Plan.parse(text)


class TextTest(unittest.TestCase):
    def test_example(self):
        plan = Plan.parse("retry 2 5 (call db both within 3 call web)")
        found = [str(plan), plan.calls()]
        self.assertEqual(found, ["retry 2 5 (call db both within 3 call web)", ["db", "web", "db", "web"]])

    def test_each_form_is_read_and_written_again(self):
        for tree in trees.some_trees():
            text = trees.text_of(tree)
            plan = Plan.parse(text)
            self.assertIs(type(plan), Plan)
            self.assertEqual(str(plan), text)

    def test_written_texts(self):
        texts = [
            "call a", "call abcdefgh", "pause 0", "pause 1000000000", "fail", "hole", "(fail then hole)",
            "(call a else pause 10)", "(call a both call b)", "(call a either call b)", "within 0 fail",
            "within 1000000000 hole", "within ? call db", "retry 1 0 fail", "retry 8 1000000000 call a",
            "((fail then fail) else (fail both (fail either fail)))", "within 1 within ? within 2 hole",
            "retry 2 3 retry 4 5 (hole then hole)", "(within 1 fail then within 2 fail)",
            "within 5 (within ? call a then within ? call b)",
        ]
        for text in texts:
            self.assertEqual(str(Plan.parse(text=text)), text)

    def test_names_that_are_words_of_the_language(self):
        words = ["call", "pause", "fail", "then", "else", "both", "either", "within", "retry", "hole"]
        for word, other in itertools.product(words, repeat=2):
            text = f"(call {word} then within 3 call {other})"
            plan = Plan.parse(text)
            self.assertEqual([str(plan), plan.calls()], [text, [word, other]])
        text = "((call then then call else) else retry 2 0 call call)"
        self.assertEqual(str(Plan.parse(text)), text)
        self.assertEqual(Plan.parse(text).calls(), ["then", "else", "call", "call"])

    def test_fifty_levels(self):
        for depth in (49, 50, 51, 60):
            for text in self.deep_texts(depth):
                self.assertEqual(str(Plan.parse(text)), text)

    def deep_texts(self, depth):
        """Returns texts with that many parentheses and prefixes within one another."""
        mixed = "call db"
        for level in range(depth):
            mixed = [f"({mixed} then fail)", f"within {level} {mixed}", f"(pause 3 else {mixed})",
                     f"retry 1 {level} {mixed}", f"(hole both {mixed})", f"within ? {mixed}"][level % 6]
        return [
            "(" * depth + "fail" + " either call abc)" * depth,
            "(fail both " * depth + "fail" + ")" * depth,
            "within 1000000000 " * depth + "hole",
            "retry 8 1000000000 " * depth + "call abcdefgh",
            mixed,
        ]

    def test_size_and_calls_of_written_out_plans(self):
        for tree in trees.some_trees():
            plan = Plan.parse(trees.text_of(tree))
            size = trees.size(tree)
            self.assertEqual(plan.size(), size)
            if size[0] > 8:
                with self.assertRaises(TooLarge):
                    plan.calls()
            else:
                self.assertEqual(plan.calls(), trees.services(tree))

    def test_longer_and_deeper_texts_are_no_error(self):
        for depth in (200, 3000):
            text = "(call db then within 7 " * depth + "fail" + ")" * depth
            plan = Plan.parse(text)
            self.assertEqual(str(plan), text)
            self.assertEqual(plan.size(), (depth, depth, 3 * depth + 1))


class InvalidTextTest(unittest.TestCase):
    def check_invalid(self, texts):
        for text in texts:
            with self.assertRaises(InvalidText, msg=repr(text)):
                Plan.parse(text)

    def test_blanks(self):
        self.check_invalid([
            "", " ", "  ", " fail", "fail ", "  fail", "call  db", " call db", "call db ", "calldb", "call", "call ",
            "pause  3", "pause3", "pause", "pause ", "pause 3 ", "(fail  then fail)", "(fail then  fail)",
            "( fail then fail)", "(fail then fail )", " (fail then fail)", "(fail then fail) ", "(failthen fail)",
            "(fail thenfail)", "(fail thenfail )", "((fail then fail)then fail)", "(fail then(fail then fail))",
            "((fail then fail)  then fail)", "within  3 fail", "within 3  fail", "within3 fail", "within 3fail",
            "within 3(fail then fail)", "within ?fail", "within ?  fail", "within? fail", "retry  2 3 fail",
            "retry 2  3 fail", "retry 2 3  fail", "retry2 3 fail", "retry 23 fail", "retry 2 3fail",
            "retry 2 3(fail then fail)", "call\tdb", "call db\n", "pause 3\n", "\nfail", "(fail then\nfail)",
        ])

    def test_parentheses(self):
        self.check_invalid([
            "(", ")", "()", "( )", "(fail)", "(call db)", "((fail then fail))", "(fail then fail", "fail then fail",
            "fail then fail)", "(fail then fail))", "((fail then fail)", "(fail then (fail then fail)",
            "call (db)", "call (db", "call db)", "(call) db", "pause (3)", "pause (3", "pause 3)", "within (3) fail",
            "within (3 fail", "within 3 (fail)", "within 3) fail", "retry (2) 3 fail", "retry 2 (3) fail",
            "retry 2 3) fail", "(within 3) fail", "(fail (then) fail)", "(fail (then fail)", "(fail then) fail",
            "(fail) then (fail)", "(fail then fail then fail)", "(fail then fail)(fail then fail)",
            "(fail then fail) then fail", "(fail fail)", "(fail then)", "(then fail)", "(fail then fail else fail)",
            ")fail then fail(", "[fail then fail]", "(fail then fail]", "(fail)(then fail)", "(fail then ())",
            "(fail then (fail) )", "fail()", "()fail", "((((", "))))", "call )", "call (", "within 3 (", "(fail then (",
        ])

    def test_numbers(self):
        self.check_invalid([
            "pause 00", "pause 01", "pause 007", "pause -1", "pause -0", "pause +1", "pause 1.0", "pause 1_000",
            "pause 1e3", "pause 0x1", "pause ?", "pause n", "pause 1000000001", "pause 9999999999",
            "pause 10000000000", "pause 0000000001", "pause 01000000000", "pause " + "9" * 1900, "pause " + "0" * 1900,
            "pause " + "9" * 6000, "within 00 fail", "within 01 fail", "within -1 fail", "within +3 fail",
            "within 1000000001 fail", "within 10000000000 fail", "within ?? fail", "within 3? fail", "within ?3 fail",
            "within n fail", "within fail", "within 3", "within ?", "within", "retry 0 3 fail", "retry 9 3 fail",
            "retry 10 3 fail", "retry 01 3 fail", "retry 08 3 fail", "retry -1 3 fail", "retry ? 3 fail",
            "retry 2 ? fail", "retry 2 01 fail", "retry 2 -1 fail", "retry 2 1000000001 fail", "retry 2 10000000000 fail",
            "retry 3 fail", "retry fail", "retry", "retry 2", "retry 2 3", "retry 2 3 4 fail", "3", "pause 1,000",
        ])

    def test_names(self):
        self.check_invalid([
            "call abcdefghi", "call abcdefghijklmnop", "call A", "call Db", "call dB", "call DB", "call db1", "call 1",
            "call d_b", "call d-b", "call d.b", "call ?", "call \"db\"", "call 'db'", "call db!", "call ~", "call @",
            "call `", "call {", "call db,web", "call db web", "call a b",
        ])

    def test_words(self):
        self.check_invalid([
            "db", "then", "else", "both", "either", "Fail", "FAIL", "fails", "fai", "Hole", "holes", "Call db", "calls db",
            "Pause 3", "wait 3", "Within 3 fail", "Retry 2 3 fail", "(fail THEN fail)", "(fail and fail)",
            "(fail or fail)", "(fail ? fail)", "(fail within fail)", "(fail call fail)", "(fail 3 fail)", "fail 3",
            "hole 3", "fail fail", "fail;", "?", "-", "~", "!", "fail.", "within 3 within 4", "within 3 then",
        ])

    def test_what_stands_behind_the_end(self):
        for text in ["fail", "hole", "call a", "pause 3", "(fail then fail)", "within 3 fail", "retry 2 3 fail"]:
            self.assertEqual(str(Plan.parse(text)), text)
            self.check_invalid([text + end for end in (" ", "  ", ")", "(", " )", " (", " fail", " 3", " db", " then",
                                                       " then fail", "?", ".", "\n", "\t", " call a", "()")])

    def test_beginnings_and_ends_of_a_text(self):
        text = "(within 12 (call ab else retry 3 10 pause 5) both (within ? hole then (fail either call b)))"
        self.assertEqual(str(Plan.parse(text)), text)
        self.check_invalid([text[:place] for place in range(len(text))])
        # The word behind a blank may begin a plan, but more text than that plan follows.
        self.check_invalid([text[place:] for place in range(1, len(text))])

    def test_what_is_read_is_written_exactly_so(self):
        for text in ["(within 12 call ab else retry 3 10 pause 5)", "within ? (fail then (hole both call then))"]:
            changed = [text[:place] + sign + text[place + size:] for place in range(len(text) + 1)
                       for sign in ["", " ", "(", ")", "0", "1", "9", "a", "?", "~", " fail", "fail ", "  "]
                       for size in (0, 1, 2)]
            read = [each for each in changed if self.is_read_exactly(each)]
            self.assertIn(text, read)
            self.assertLess(len(read), len(changed) // 4)

    def is_read_exactly(self, text):
        """Tells whether a text is a plan's, which then has to be the text of that plan."""
        try:
            plan = Plan.parse(text)
        except InvalidText:
            return False
        self.assertEqual(str(plan), text)
        return True

    def test_other_signs_for_digits_and_letters(self):
        self.check_invalid(["pause \u0663", "pause \u00b2", "retry \u0663 3 fail", "call \u00e9", "call \u03b1",
                            "call a\u00a0", "pause\u00a03", "fail\u2003"])

    def test_the_error_is_no_other_one(self):
        with self.assertRaises(PlanError) as caught:
            Plan.parse("fail fail")
        self.assertIs(type(caught.exception), InvalidText)


class CallsTest(unittest.TestCase):
    def test_order_of_the_text(self):
        plan = parsed("((call b then call a) both (call c else within 3 (call a either call d)))")
        self.assertEqual(plan.calls(), ["b", "a", "c", "a", "d"])

    def test_retries_copy_calls(self):
        cases = {
            "retry 1 5 call a": ["a"],
            "retry 3 5 call a": ["a", "a", "a"],
            "retry 2 0 (call a then retry 2 0 call b)": ["a", "b", "b", "a", "b", "b"],
            "(retry 2 0 call a then call b)": ["a", "a", "b"],
            "(call b then retry 2 0 call a)": ["b", "a", "a"],
            "retry 8 0 pause 3": [], "fail": [], "hole": [], "(hole then fail)": [],
            "within ? (hole then call a)": ["a"],
        }
        for text, wanted in cases.items():
            self.assertEqual(parsed(text).calls(), wanted)

    def test_eight_and_nine_calls(self):
        nine = "(" * 8 + "call a" + " then call a)" * 8
        eight = "(" * 7 + "call a" + " then call a)" * 7
        few = [eight, "retry 8 0 call a", "retry 4 0 retry 2 0 call a", "(retry 7 0 call a then call a)"]
        many = [nine, "(retry 8 0 call a then call a)", "retry 3 0 retry 3 0 call a", "(call a then retry 8 0 call a)",
                "retry 5 0 (call a both call a)", "retry 2 0 " * 50 + "call a", "retry 8 9 " * 50 + "call a"]
        for text in few:
            self.assertEqual(parsed(text).calls(), ["a"] * 8)
        for text in many:
            with self.assertRaises(TooLarge):
                parsed(text).calls()

    def test_other_sizes_do_not_matter_for_calls(self):
        withins = "within 3 " * 30 + "call a"
        self.assertEqual(parsed(withins).calls(), ["a"])
        self.assertEqual(parsed("(" + "retry 8 0 " * 49 + "fail then call a)").calls(), ["a"])

    def test_returned_lists_are_new(self):
        plan = parsed("(call a then retry 2 0 call b)")
        plan.calls().append("c")
        plan.calls().clear()
        self.assertEqual(plan.calls(), ["a", "b", "b"])
        self.assertIsNot(plan.calls(), plan.calls())
        single = parsed("call a")
        single.calls().append("b")
        self.assertEqual(single.calls(), ["a"])
        self.assertIs(type(plan.calls()), list)


class SizeTest(unittest.TestCase):
    def test_each_form(self):
        cases = {
            "call a": (1, 0, 1), "pause 3": (0, 0, 1), "fail": (0, 0, 1), "hole": (0, 0, 1),
            "(call a then call b)": (2, 0, 3), "(call a else fail)": (1, 0, 3), "(fail both hole)": (0, 0, 3),
            "(fail either fail)": (0, 0, 3), "within 3 call a": (1, 1, 2), "within ? call a": (1, 1, 2),
            "retry 1 3 call a": (1, 0, 1), "retry 2 3 call a": (2, 0, 5), "retry 3 3 call a": (3, 0, 9),
            "retry 8 0 fail": (0, 0, 29), "retry 2 3 within 5 call a": (2, 2, 7), "within 5 retry 2 3 call a": (2, 1, 6),
        }
        for text, wanted in cases.items():
            self.assertEqual(parsed(text).size(), wanted)

    def test_retries_within_retries(self):
        self.assertEqual(parsed("retry 2 1 retry 2 1 call a").size(), (4, 0, 13))
        self.assertEqual(parsed("retry 1 1 retry 1 1 call a").size(), (1, 0, 1))
        self.assertEqual(parsed("retry 3 1 within 4 retry 2 1 (call a both within 2 hole)").size(), (6, 9, 42))
        tree = ("retry", 3, 1, ("else", ("retry", 4, 0, ("within", 3, ("call", "a"))), ("retry", 2, 0, ("hole",))))
        self.assertEqual(parsed(trees.text_of(tree)).size(), trees.size(tree))

    def test_very_large_plans(self):
        calls, forms = 1, 1
        for _ in range(50):
            calls, forms = 8 * calls, 8 * forms + 21
        self.assertEqual(parsed("retry 8 5 " * 50 + "call a").size(), (calls, 0, forms))
        self.assertEqual(calls, 8**50)

    def test_a_tuple_of_integers(self):
        for text in ("call a", "fail", "within 3 hole", "retry 2 0 within 3 call b"):
            size = parsed(text).size()
            self.assertIs(type(size), tuple)
            self.assertEqual([type(number) for number in size], [int, int, int])


class ComparisonTest(unittest.TestCase):
    def test_plans_are_equal_if_their_texts_are(self):
        texts = [
            "call a", "call b", "pause 0", "pause 1", "fail", "hole", "within 3 call a", "within 4 call a",
            "within ? call a", "retry 1 3 call a", "retry 2 3 call a", "retry 2 4 call a", "(call a then call b)",
            "(call b then call a)", "(call a else call b)", "(call a both call b)", "(call b both call a)",
            "(call a either call b)", "((fail then fail) then fail)", "(fail then (fail then fail))",
            "(call a else (pause 3 then call a))", "within 3 within 4 fail", "within 4 within 3 fail",
        ]
        for first, second in itertools.product(texts, repeat=2):
            self.assertIs(parsed(first) == parsed(second), first == second)
            self.assertIs(parsed(first) != parsed(second), first != second)

    def test_no_other_value_is_equal(self):
        for text in ("fail", "call a", "(hole then pause 3)"):
            plan = parsed(text)
            for value in [*any_values(), text, [text], (text,), tuple(text.split(" ")), Times([]), object()]:
                self.assertIs(plan == value, False)
                self.assertIs(plan != value, True)
                self.assertIs(value == plan, False)


class PlugTest(unittest.TestCase):
    def test_example(self):
        plan = plug(Plan.parse("(hole else pause 2)"), Plan.parse("within 3 call web"))
        self.assertEqual(str(plan), "(within 3 call web else pause 2)")

    def test_each_place_of_the_hole(self):
        inner = parsed("(call x then call y)")
        arounds = ["hole", "(hole then fail)", "(fail then hole)", "(hole both fail)", "(fail either hole)",
                   "within 3 hole", "retry 2 5 hole", "retry 3 1 (call hole then within 2 (fail else hole))",
                   "((fail then hole) else call a)", "within 1 within 2 (call b both hole)"]
        for around in arounds:
            plan = plug(surrounding=parsed(around), plan=inner)
            wanted = self.with_inner(around)
            self.assertIs(type(plan), Plan)
            self.assertEqual(str(plan), wanted)
            self.assertTrue(plan == parsed(wanted))

    def with_inner(self, around):
        """Returns a text with the inner plan in the place of its hole, which is no name of a service."""
        return around.replace("call hole", "call HOLE").replace("hole", "(call x then call y)").replace("HOLE", "hole")

    def test_a_plan_within_retries_is_copied(self):
        plan = plug(parsed("retry 2 5 (hole else call a)"), parsed("within 3 call b"))
        self.assertEqual([plan.calls(), plan.size()], [["b", "a", "b", "a"], (4, 2, 11)])

    def test_no_hole(self):
        wrong = ["call hole", "fail", "call a", "(call a then call hole)", "within 3 fail", "(hole then hole)",
                 "(hole both (fail then hole))", "retry 2 3 (hole else hole)", "within ? hole", "within ? call a",
                 "(within ? call a then hole)", "(hole then within ? fail)", "within ? within ? hole",
                 "(within ? hole then hole)", "retry 2 3 within ? hole"]
        for text in wrong:
            with self.assertRaises(NoHole):
                plug(parsed(text), parsed("call a"))

    def test_the_plan_may_have_holes_and_marks(self):
        around = parsed("(hole else call a)")
        for text in ["hole", "(hole then hole)", "within ? hole", "within ? within ? call b", "retry 2 3 (hole else hole)"]:
            self.assertEqual(str(plug(around, parsed(text))), f"({text} else call a)")

    def test_plugging_into_what_was_plugged(self):
        around = parsed("within 3 (hole then fail)")
        twice = plug(plug(around, around), parsed("call a"))
        self.assertEqual(str(twice), "within 3 (within 3 (call a then fail) then fail)")
        with self.assertRaises(NoHole):
            plug(twice, around)
        with self.assertRaises(NoHole):
            plug(plug(around, parsed("(hole then hole)")), around)

    def test_the_plans_stay_as_they_were(self):
        around, inner = parsed("(hole then fail)"), parsed("call a")
        plug(around, inner)
        self.assertEqual([str(around), str(inner)], ["(hole then fail)", "call a"])
        broken = parsed("(hole then hole)")
        with self.assertRaises(NoHole):
            plug(broken, inner)
        self.assertEqual([str(broken), str(inner)], ["(hole then hole)", "call a"])

    def test_results_may_be_longer_and_deeper_than_texts(self):
        plan = parsed("hole")
        layer = parsed("(within 1000000000 retry 1 3 (hole else fail) then pause 1000000000)")
        for _ in range(1200):
            plan = plug(layer, plan)
        self.assertEqual(plan.size(), (0, 1200, 5 * 1200 + 1))
        self.assertEqual(plan.calls(), [])
        again = Plan.parse(str(plan))
        self.assertTrue(plan == again)
        self.assertTrue(plug(plan, parsed("call a")) != plan)
        self.assertEqual(plug(plan, parsed("call a")).calls(), ["a"])


if __name__ == "__main__":
    unittest.main()
