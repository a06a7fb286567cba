import itertools
import unittest

from callplans.contracts import Contract, is_reply
from callplans.errors import BadContract
from callplans.times import Times
from values import any_values, nested_list, nested_tuple

LAST = 10**6


class ReplyTest(unittest.TestCase):
    def test_replies(self):
        for reply in [("ok", 1), ("fail", 1), ("ok", LAST + 1), ("fail", 10**40), ("never",)]:
            self.assertIs(is_reply(reply), True)

    def test_values_that_are_no_replies(self):
        wrong = [("ok", 0), ("fail", 0), ("ok", -1), ("fail", -1), ("ok", True), ("never", 1), ("ok",), ["never"]]
        for value in wrong + any_values():
            self.assertIs(is_reply(value), False)


class ContractTest(unittest.TestCase):
    def check_bad(self, **values):
        with self.assertRaises(BadContract, msg=values):
            Contract(**values)

    def test_example(self):
        contract = Contract(ok=(2, 4), hang=True)
        found = [contract.allows(("ok", 4)), contract.allows(("fail", 2)), contract.allows(("never",))]
        self.assertEqual(found, [True, False, True])

    def test_attributes(self):
        for ok, fail, hang in itertools.product([None, (1, 1), (2, LAST)], [None, (1, LAST), (7, 7)], [True, False]):
            if ok or fail or hang:
                contract = Contract(ok=ok, fail=fail, hang=hang)
                self.assertEqual([contract.ok, contract.fail], [ok, fail])
                self.assertIs(contract.hang, hang)

    def test_defaults(self):
        self.assertEqual(vars(Contract(ok=(1, 2))), {"ok": (1, 2), "fail": None, "hang": False})
        self.assertEqual(vars(Contract(fail=(1, 2))), {"ok": None, "fail": (1, 2), "hang": False})
        self.assertEqual(vars(Contract(hang=True)), {"ok": None, "fail": None, "hang": True})

    def test_arguments_must_be_passed_by_name(self):
        with self.assertRaises(TypeError):
            Contract((1, 2))

    def test_edges_of_the_ranges(self):
        for span in [(1, 1), (1, LAST), (LAST, LAST), (LAST - 1, LAST)]:
            self.assertEqual(Contract(ok=span).ok, span)
            self.assertEqual(Contract(fail=span).fail, span)

    def test_wrong_ranges(self):
        wrong = [
            (0, 0), (0, 1), (0, LAST), (-1, 1), (-2, -1), (1, LAST + 1), (LAST + 1, LAST + 1), (LAST, LAST + 1),
            (2, 1), (LAST, 1), (1, 0), (True, True), (True, 2), (1, True), (False, 1), (1, None), (None, 1), (1,),
            (1, 2, 3), (), [1, 2], [(1, 2)], ((1, 2),), ("1", "2"), (1, "2"), ((1, 1), (2, 2)), {1: 2}, "12",
            (1, 10**5000), Times([(1, 2)]), (nested_list(45, 1), 2), (1, nested_tuple(45, 2)),
        ]
        for value in wrong + [value for value in any_values() if value is not None]:
            self.check_bad(ok=value)
            self.check_bad(fail=value)
            self.check_bad(ok=value, fail=(1, 2), hang=True)
            self.check_bad(ok=(1, 2), fail=value, hang=True)

    def test_hang_is_true_or_false(self):
        for value in [*any_values(), (1, 2), [(1, 2)], Times([]), Times([(1, 2)])]:
            if value is not True and value is not False:
                self.check_bad(ok=(1, 2), hang=value)
                self.check_bad(hang=value)

    def test_at_least_one_reply_is_allowed(self):
        self.check_bad()
        self.check_bad(ok=None, fail=None)
        self.check_bad(ok=None, fail=None, hang=False)

    def test_allows_at_and_beside_the_ends(self):
        contract = Contract(ok=(2, 4), fail=(4, 7))
        allowed = [(word, time) for word in ("ok", "fail") for time in range(-1, 10) if contract.allows((word, time))]
        wanted = [("ok", 2), ("ok", 3), ("ok", 4), ("fail", 4), ("fail", 5), ("fail", 6), ("fail", 7)]
        self.assertEqual(allowed, wanted)

    def test_allows_at_the_edges(self):
        contract = Contract(ok=(1, LAST), fail=(1, 1))
        replies = [("ok", 0), ("ok", 1), ("ok", LAST), ("ok", LAST + 1), ("fail", 0), ("fail", 1), ("fail", 2)]
        self.assertEqual([contract.allows(reply) for reply in replies], [False, True, True, False, False, True, False])

    def test_allows_only_what_is_told(self):
        replies = [("ok", 3), ("fail", 3), ("never",)]
        for ok, fail, hang in itertools.product([None, (2, 4)], [None, (2, 4)], [True, False]):
            if ok or fail or hang:
                contract = Contract(ok=ok, fail=fail, hang=hang)
                for reply, wanted in zip(replies, [ok is not None, fail is not None, hang]):
                    self.assertIs(contract.allows(reply), wanted)
                    self.assertIs(contract.allows(reply=reply), wanted)

    def test_allows_no_values_that_are_no_replies(self):
        contract = Contract(ok=(1, LAST), fail=(1, LAST), hang=True)
        wrong = [
            ["ok", 3], ("ok", 3, 3), ("ok", "3"), ("ok", (3,)), ("ok", [3]), ("ok", True), ("ok", False), ("fail", None),
            ("fail", True), ("never", 3), ("never", None), ("never", "never"), (("never",),), ["never"], "never",
            ("hang",), ("Ok", 3), ("OK", 3), ("", 3), (None, 3), (3, "ok"), (True, 3), (["ok"], 3), (("ok",), 3),
            ({"ok": 1}, 3), {"ok": 3}, {"never": None}, (nested_list(45, "ok"), 3), ("ok", nested_tuple(45, 3)),
            ("ok", -3), ("ok", 10**5000),
        ]
        for value in wrong + any_values():
            self.assertIs(contract.allows(value), False, value)

    def test_never_is_allowed_only_if_the_service_may_hang(self):
        self.assertIs(Contract(ok=(1, 5), fail=(1, 5)).allows(("never",)), False)
        self.assertIs(Contract(hang=True).allows(("never",)), True)

    def test_comparison(self):
        values = [(ok, fail, hang) for ok in (None, (1, 2), (1, 3)) for fail in (None, (1, 2), (2, 2))
                  for hang in (False, True) if ok or fail or hang]
        for first, second in itertools.product(values, repeat=2):
            one = Contract(ok=first[0], fail=first[1], hang=first[2])
            other = Contract(ok=second[0], fail=second[1], hang=second[2])
            self.assertIs(one == other, first == second)
            self.assertIs(one != other, first != second)

    def test_no_other_value_is_equal(self):
        contract = Contract(ok=(1, 2), fail=(1, 2), hang=True)
        for value in [*any_values(), (1, 2), ((1, 2), (1, 2), True), vars(contract), Times([(1, 2)]), object()]:
            self.assertIs(contract == value, False)
            self.assertIs(contract != value, True)
            self.assertIs(value == contract, False)


if __name__ == "__main__":
    unittest.main()
