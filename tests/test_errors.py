import unittest

from stepcells import errors


class TestErrors(unittest.TestCase):
    def test_cell_error_stands_under_value_error(self):
        self.assertEqual(errors.CellError.__bases__, (ValueError,))

    def test_each_refusal_stands_under_cell_error(self):
        for name in ("NoRow", "TwoMarks", "NoMark", "NoCells", "NoLine"):
            with self.subTest(name=name):
                self.assertEqual(getattr(errors, name).__bases__, (errors.CellError,))

    def test_refusals_are_taken_by_their_own_class_alone(self):
        with self.assertRaises(errors.NoRow):
            try:
                raise errors.NoRow("no row")
            except (errors.TwoMarks, errors.NoMark, errors.NoCells, errors.NoLine):
                self.fail("taken as another refusal")


if __name__ == "__main__":
    unittest.main()
