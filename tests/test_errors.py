import unittest

from leastpass import errors
from leastpass.rounds import play
from tests.support import ANY_VALUES, raised

FIELDS = {
    "InvalidBoard": "reason",
    "InvalidSizes": "reason",
    "InvalidPlan": "reason",
    "InvalidRound": None,
    "InvalidCard": "card",
    "InvalidPlace": "place",
    "InvalidCount": None,
    "InvalidRepeats": None,
    "InvalidProfile": "reason",
    "InvalidPairs": None,
    "InvalidDeal": None,
    "IndexTooLarge": "count",
    "ProblemTooLarge": "count",
    "NothingToUndo": None,
}
WITH_FIELD = {name: field for name, field in FIELDS.items() if field is not None}


class ErrorClasses(unittest.TestCase):
    """[10], and the bases that [2] names."""

    def test_the_table_is_complete(self):
        found = {name for name, value in vars(errors).items() if isinstance(value, type)}
        self.assertEqual(found, set(FIELDS) | {"LeastPassError"})

    def test_base_class(self):
        self.assertEqual(errors.LeastPassError.__bases__, (ValueError,))
        self.assertIsInstance(errors.LeastPassError(), ValueError)

    def test_every_class_derives_directly_from_the_base_class(self):
        for name in FIELDS:
            with self.subTest(name):
                self.assertEqual(getattr(errors, name).__bases__, (errors.LeastPassError,))

    def test_every_class_is_defined_in_its_module(self):
        for name in [*FIELDS, "LeastPassError"]:
            with self.subTest(name):
                self.assertEqual(getattr(errors, name).__module__, "leastpass.errors")
                self.assertEqual(getattr(errors, name).__name__, name)

    def test_classes_without_a_field_take_no_argument(self):
        for name, field in FIELDS.items():
            if field is None:
                with self.subTest(name):
                    error = getattr(errors, name)()
                    self.assertIsInstance(error, errors.LeastPassError)
                    self.assertEqual(vars(error), {})

    def test_field_is_none_without_an_argument(self):
        for name, field in WITH_FIELD.items():
            with self.subTest(name):
                self.assertEqual(vars(getattr(errors, name)()), {field: None})

    def test_field_by_position(self):
        for name, field in WITH_FIELD.items():
            for value in [*ANY_VALUES, ("short", 0)]:
                with self.subTest(name, value=value):
                    error = getattr(errors, name)(value)
                    self.assertEqual(list(vars(error)), [field])
                    self.assertIs(getattr(error, field), value)

    def test_field_by_name(self):
        for name, field in WITH_FIELD.items():
            for value in [*ANY_VALUES, ("short", 0)]:
                with self.subTest(name, value=value):
                    error = getattr(errors, name)(**{field: value})
                    self.assertEqual(list(vars(error)), [field])
                    self.assertIs(getattr(error, field), value)

    def test_fields_of_two_errors_are_independent(self):
        first = errors.InvalidBoard(("shape",))
        second = errors.InvalidBoard(("lot", 1))
        self.assertEqual((first.reason, second.reason), (("shape",), ("lot", 1)))

    def test_errors_can_be_raised_and_caught_as_value_errors(self):
        for name in [*FIELDS, "LeastPassError"]:
            with self.subTest(name):
                with self.assertRaises(ValueError):
                    raise getattr(errors, name)()

    def test_example(self):
        error = raised(self, errors.InvalidBoard, play, ((1,), ((),)), [(0,)])
        self.assertEqual(error.reason, ("short", 0))
