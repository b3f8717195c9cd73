"""The refusals of point 18, as the interface names them."""

import unittest

from copydesks import errors

NAMES = ["NoDesk", "NoPage", "Waiting", "NoCopy", "NoLetter"]


class TestErrors(unittest.TestCase):
    def test_any_refusal_is_a_value_error(self):
        self.assertEqual(errors.CopyError.__bases__, (ValueError,))

    def test_each_refusal_stands_straight_under_copy_error(self):
        for name in NAMES:
            with self.subTest(name=name):
                self.assertEqual(getattr(errors, name).__bases__, (errors.CopyError,))

    def test_each_refusal_can_be_taken_by_each_of_its_names(self):
        for name in NAMES:
            own = getattr(errors, name)
            for taken_as in (own, errors.CopyError, ValueError):
                with self.subTest(name=name, taken_as=taken_as.__name__):
                    with self.assertRaises(taken_as):
                        raise own("refused")

    def test_no_refusal_is_taken_for_another(self):
        for name in NAMES:
            for other in NAMES:
                if name != other:
                    with self.subTest(name=name, other=other):
                        self.assertFalse(issubclass(getattr(errors, name), getattr(errors, other)))


if __name__ == "__main__":
    unittest.main()
