"""[2] and [22]: the error classes."""

from seatsahead import errors
from tests.cases import Case

ATTRIBUTES = {
    "BadDeed": "place",
    "BadLayout": "place",
    "BadLine": "number",
    "BadPair": "place",
    "BadText": "piece",
    "Known": "name",
    "NoNumber": "number",
    "NoPlace": "number",
    "NoProgram": "name",
    "NoStep": "name",
}
EMPTY = ("NothingDone", "OtherSteps")


class TestErrors(Case):

    def test_the_class_above_all_is_a_value_error(self):
        self.assertEqual(errors.SeatError.__bases__, (ValueError,))

    def test_each_class_is_directly_below_seat_error(self):
        for name in [*ATTRIBUTES, *EMPTY]:
            with self.subTest(name=name):
                self.assertEqual(getattr(errors, name).__bases__, (errors.SeatError,))

    def test_each_class_is_defined_in_this_file_under_its_name(self):
        for name in ["SeatError", *ATTRIBUTES, *EMPTY]:
            with self.subTest(name=name):
                self.assertEqual(getattr(errors, name).__module__, "seatsahead.errors")
                self.assertEqual(getattr(errors, name).__name__, name)

    def test_each_class_keeps_its_value_by_place_and_by_name(self):
        for name, attribute in ATTRIBUTES.items():
            for value in (0, 7, 10 ** 30, "z"):
                with self.subTest(name=name, value=value):
                    made = getattr(errors, name)
                    self.same(getattr(made(value), attribute), value)
                    self.same(getattr(made(**{attribute: value}), attribute), value)

    def test_each_class_wants_its_value(self):
        for name in ATTRIBUTES:
            with self.subTest(name=name):
                self.assertRaises(TypeError, getattr(errors, name))

    def test_two_classes_take_no_value(self):
        for name in EMPTY:
            with self.subTest(name=name):
                made = getattr(errors, name)
                self.assertIsInstance(made(), errors.SeatError)
                self.assertRaises(errors.SeatError, raise_it, made())

    def test_each_error_can_be_caught_as_any_class_above_it(self):
        for name in ATTRIBUTES:
            with self.subTest(name=name):
                made = getattr(errors, name)
                self.assertRaises(made, raise_it, made(1))
                self.assertRaises(errors.SeatError, raise_it, made(1))
                self.assertRaises(ValueError, raise_it, made(1))


def raise_it(error):
    raise error
