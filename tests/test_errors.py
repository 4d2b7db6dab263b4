"""Point 2: the classes of refusal."""

import unittest

from carvebed import errors
from tests.helper import REFUSALS


class ErrorsTest(unittest.TestCase):
    def test_any_refusal_is_a_value_error(self):
        self.assertTrue(issubclass(errors.CarveError, ValueError))

    def test_each_stands_under_carve_error(self):
        for name in REFUSALS:
            self.assertTrue(issubclass(getattr(errors, name), errors.CarveError), name)

    def test_none_stands_under_another_one(self):
        for name in REFUSALS:
            for other in REFUSALS:
                if name != other:
                    self.assertFalse(issubclass(getattr(errors, name), getattr(errors, other)), (name, other))

    def test_carve_error_stands_under_none_of_the_others(self):
        for name in REFUSALS:
            self.assertFalse(issubclass(errors.CarveError, getattr(errors, name)), name)


if __name__ == "__main__":
    unittest.main()
