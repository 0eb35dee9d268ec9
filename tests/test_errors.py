"""[0.2] The error classes."""

import unittest

from starclocks import errors
from tests.helper import ERRORS


class Errors(unittest.TestCase):
    def test_all_stand_straight_under_refused(self):
        self.assertEqual(errors.Refused.__bases__, (ValueError,))
        for name in ERRORS:
            self.assertEqual(getattr(errors, name).__bases__, (errors.Refused,), name)

    def test_there_are_no_others(self):
        found = [name for name, value in vars(errors).items() if isinstance(value, type)]
        self.assertEqual(sorted(found), sorted(ERRORS + ("Refused",)))

    def test_none_stands_under_another(self):
        for one in ERRORS:
            for two in ERRORS:
                under = issubclass(getattr(errors, one), getattr(errors, two))
                self.assertEqual(under, one == two, (one, two))

    def test_what_is_kept(self):
        for name in ERRORS + ("Refused",):
            kind = getattr(errors, name)
            for what in (0, -1, 10 ** 40, (1, 2, 0), (0, 1), "abc", (), None):
                self.assertEqual(kind(what).what, what)
                self.assertEqual(kind(what=what).what, what)

    def test_made_from_one_argument(self):
        for name in ERRORS + ("Refused",):
            kind = getattr(errors, name)
            self.assertRaises(TypeError, kind)
            self.assertRaises(TypeError, kind, 1, 2)

    def test_caught_as_value_error(self):
        for name in ERRORS:
            for above in (ValueError, errors.Refused):
                with self.assertRaises(above) as caught:
                    raise getattr(errors, name)(7)
                self.assertEqual(caught.exception.what, 7)


if __name__ == "__main__":
    unittest.main()
