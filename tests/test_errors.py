"""The refusals: tailroad.errors."""

import unittest

from tailroad.errors import BadCount, NoFunction, NoRow, RoadError, Unknown

KINDS = (NoFunction, BadCount, Unknown, NoRow)


class TestErrors(unittest.TestCase):
    def test_any_refusal_is_a_value_error(self):
        self.assertTrue(issubclass(RoadError, ValueError))

    def test_each_kind_is_a_road_error(self):
        for kind in KINDS:
            self.assertTrue(issubclass(kind, RoadError), kind)
            self.assertIsNot(kind, RoadError)

    def test_none_is_under_another(self):
        for kind in KINDS:
            under = [other for other in KINDS if issubclass(kind, other)]
            self.assertEqual(under, [kind])

    def test_each_is_defined_in_errors(self):
        for kind in (RoadError, *KINDS):
            self.assertEqual(kind.__module__, "tailroad.errors")

    def test_each_can_be_raised_with_a_text(self):
        for kind in (RoadError, *KINDS):
            with self.assertRaises(ValueError) as caught:
                raise kind("why")
            self.assertEqual(str(caught.exception), "why")


if __name__ == "__main__":
    unittest.main()
