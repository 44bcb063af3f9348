import unittest

from crosstable import errors
from crosstable.diagonal import brought
from crosstable.kin import road
from crosstable.notes import read
from crosstable.sums import how_many, how_often
from crosstable.tables import changed

REFUSALS = ("BadTable", "BadChange", "NoRoad", "BadRow", "BadNumber", "NoLine")


class ErrorsTest(unittest.TestCase):
    def test_table_error_is_a_value_error(self):
        self.assertTrue(issubclass(errors.TableError, ValueError))

    def test_each_refusal_is_a_table_error(self):
        for name in REFUSALS:
            with self.subTest(name):
                refusal = getattr(errors, name)
                self.assertTrue(issubclass(refusal, errors.TableError))
                self.assertIsInstance(refusal("words"), ValueError)

    def test_no_refusal_stands_under_another(self):
        kinds = [getattr(errors, name) for name in REFUSALS]
        for one in kinds:
            for two in kinds:
                if one is not two:
                    self.assertFalse(issubclass(one, two))

    def test_what_is_raised_is_a_table_error(self):
        for name, refused in (
            ("BadTable", lambda: brought([])),
            ("BadChange", lambda: changed([[1]], ("turn", "row", 1))),
            ("NoRoad", lambda: road([[1]], [[2]])),
            ("BadRow", lambda: how_often([[1]], [1, 2])),
            ("BadNumber", lambda: how_many([[1]], 0)),
            ("NoLine", lambda: read("turn row 01")),
        ):
            with self.subTest(name):
                with self.assertRaises(errors.TableError) as met:
                    refused()
                self.assertIs(type(met.exception), getattr(errors, name))


if __name__ == "__main__":
    unittest.main()
