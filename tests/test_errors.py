"""The error classes of the interface."""

import unittest

from soldages import errors

ATTRIBUTES = {
    "InvalidText": "row",
    "NotLawful": "day",
    "TooLarge": "count",
    "MoreSpread": "level",
    "NoChoice": "number",
    "Worse": "future",
    "NotThere": "day",
    "InvalidRow": "row",
    "UnknownName": "name",
}
VALUES = [0, 7, -1, 10 ** 5000, True, None, "", "a {0} text", "two\nrows", (), (1, [2]), [], [1, [2, (3,)]], {"a": [1]}]


class ErrorsTest(unittest.TestCase):
    def test_classes_are_direct_subclasses(self):
        self.assertEqual(errors.StoreError.__bases__, (ValueError,))
        names = [*ATTRIBUTES, "NotComparable"]
        self.assertEqual(len(names), 10)
        for name in names:
            kind = getattr(errors, name)
            self.assertEqual(kind.__bases__, (errors.StoreError,))
            self.assertEqual(kind.__module__, "soldages.errors")
            self.assertEqual(kind.__name__, name)

    def test_none_is_a_subclass_of_another_one(self):
        kinds = [getattr(errors, name) for name in [*ATTRIBUTES, "NotComparable"]]
        for kind in kinds:
            self.assertEqual([other for other in kinds if issubclass(kind, other)], [kind])
            self.assertFalse(issubclass(errors.StoreError, kind))

    def test_attributes_are_the_values_passed(self):
        for name, attribute in ATTRIBUTES.items():
            for value in VALUES:
                by_place = getattr(errors, name)(value)
                by_name = getattr(errors, name)(**{attribute: value})
                for error in (by_place, by_name):
                    self.assertEqual(vars(error), {attribute: value})
                    self.assertIs(type(getattr(error, attribute)), type(value))

    def test_not_comparable_has_no_attribute(self):
        self.assertEqual(vars(errors.NotComparable()), {})

    def test_each_takes_its_values_only(self):
        for name in ATTRIBUTES:
            with self.assertRaises(TypeError):
                getattr(errors, name)()
        with self.assertRaises(TypeError):
            errors.NotComparable(1)

    def test_errors_keep_copies(self):
        for name, attribute in ATTRIBUTES.items():
            value = [1, [2], ([3],), {"a": [4]}]
            error = getattr(errors, name)(value)
            value[1].append(5)
            value[2][0].append(5)
            value[3]["a"].append(5)
            value.append(5)
            self.assertEqual(getattr(error, attribute), [1, [2], ([3],), {"a": [4]}])

    def test_deeply_nested_values(self):
        value = 1
        for _ in range(50):
            value = [value]
        self.assertEqual(errors.Worse(value).future, value)

    def test_errors_are_raised_and_have_a_text(self):
        for name in [*ATTRIBUTES, "NotComparable"]:
            values = [10 ** 5000] if name in ATTRIBUTES else []
            with self.assertRaises(errors.StoreError) as caught:
                raise getattr(errors, name)(*values)
            self.assertTrue(str(caught.exception))


if __name__ == "__main__":
    unittest.main()
