import unittest

from callplans import errors
from values import any_values

ATTRIBUTES = {
    "InvalidText": (), "BadRange": (), "BadContract": (), "HasHole": (), "NoHole": (), "NoMark": (),
    "UnknownService": ("name",), "TooLarge": (), "BadWorld": ("number",), "NoOutcome": ("wanted",),
    "BadTime": ("time",), "BadReply": ("number",), "Broken": ("number",), "UnknownName": ("name",),
    "UnknownRun": ("number",), "PromiseBroken": ("name", "world"), "RunLate": ("number", "world"),
    "BadReplies": ("number",), "UnknownCall": ("number",), "OtherPlans": (), "NotSettled": (), "BadShare": (),
    "NotWaiting": ("number",),
}


class ErrorTest(unittest.TestCase):
    def test_base_class(self):
        self.assertEqual(errors.PlanError.__bases__, (ValueError,))
        self.assertIsInstance(errors.PlanError(), ValueError)

    def test_direct_subclasses(self):
        for name in ATTRIBUTES:
            with self.subTest(name=name):
                made = getattr(errors, name)
                self.assertEqual(made.__bases__, (errors.PlanError,))
                self.assertEqual(made.__name__, name)
                self.assertEqual(made.__module__, "callplans.errors")

    def test_no_error_is_a_subclass_of_another_one(self):
        for one in ATTRIBUTES:
            for other in ATTRIBUTES:
                is_subclass = issubclass(getattr(errors, one), getattr(errors, other))
                self.assertEqual(is_subclass, one == other, (one, other))

    def test_no_other_errors(self):
        found = [name for name, value in vars(errors).items() if isinstance(value, type)]
        self.assertEqual(sorted(found), sorted([*ATTRIBUTES, "PlanError"]))

    def test_attributes_by_position_and_by_name(self):
        for name, attributes in ATTRIBUTES.items():
            make = getattr(errors, name)
            for value in any_values():
                values = [value, [value, name]][:len(attributes)]
                by_name = dict(zip(attributes, values))
                for error in (make(*values), make(**by_name)):
                    self.check_attributes(error, by_name)

    def check_attributes(self, error, wanted):
        self.assertEqual(list(vars(error)), list(wanted))
        for attribute, value in wanted.items():
            self.assertIs(getattr(error, attribute), value)

    def test_names_in_another_order(self):
        broken = errors.PromiseBroken(world=[("never",)], name="both")
        self.assertEqual((broken.name, broken.world), ("both", [("never",)]))
        late = errors.RunLate(world=[], number=3)
        self.assertEqual((late.number, late.world), (3, []))

    def test_missing_and_further_arguments(self):
        for name, attributes in ATTRIBUTES.items():
            if attributes:
                make = getattr(errors, name)
                with self.assertRaises(TypeError):
                    make()
                with self.assertRaises(TypeError):
                    make(*[0] * (len(attributes) + 1))

    def test_raised_and_caught_as_plan_error(self):
        for name, attributes in ATTRIBUTES.items():
            error = getattr(errors, name)(*[7] * len(attributes))
            with self.assertRaises(errors.PlanError) as caught:
                raise error
            self.assertIs(caught.exception, error)
            with self.assertRaises(ValueError):
                raise error


if __name__ == "__main__":
    unittest.main()
