import unittest

from crosstable import errors
from crosstable.diagonal import brought
from crosstable.tables import changed

REFUSALS = ("BadTable", "BadChange", "NoRoad", "BadRow", "BadNumber", "NoLine")


class ErrorsTest(unittest.TestCase):
    def test_table_error_is_a_value_error(self):
        self.assertTrue(issubclass(errors.TableError, ValueError))

    def test_each_refusal_is_a_table_error(self):
        for name in REFUSALS:
            with self.subTest(name):
                refusal = getattr(errors, name)
                self.assertTrue(issubclass(refusal, errors.TableError))
                self.assertIsInstance(refusal("words"), ValueError)

    def test_no_refusal_stands_under_another(self):
        kinds = [getattr(errors, name) for name in REFUSALS]
        for one in kinds:
            for two in kinds:
                if one is not two:
                    self.assertFalse(issubclass(one, two))

    def test_what_is_raised_is_a_table_error(self):
        with self.assertRaises(errors.TableError):
            brought([])
        with self.assertRaises(errors.TableError):
            changed([[1]], ("turn", "row", 1))


if __name__ == "__main__":
    unittest.main()
