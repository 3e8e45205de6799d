"""Point 5: the errors."""

import unittest

from twoknowers import errors
from twoknowers.errors import BadLine, BadObserver, BadProgram, KnowError, NotAllowed

OTHERS = (BadProgram, NotAllowed, BadObserver, BadLine)


class Errors(unittest.TestCase):
    def test_the_first_one_is_a_subclass_of_value_error(self):
        self.assertTrue(issubclass(KnowError, ValueError))
        self.assertEqual(KnowError.__bases__, (ValueError,))

    def test_the_others_are_direct_subclasses(self):
        for error in OTHERS:
            with self.subTest(error=error.__name__):
                self.assertEqual(error.__bases__, (KnowError,))

    def test_there_are_no_others(self):
        found = [each for each in vars(errors).values() if isinstance(each, type)]
        self.assertEqual(sorted(each.__name__ for each in found),
                         sorted(each.__name__ for each in (KnowError, *OTHERS)))

    def test_each_is_defined_in_the_module(self):
        for error in (KnowError, *OTHERS):
            self.assertEqual(error.__module__, "twoknowers.errors")

    def test_value_is_what_was_passed(self):
        values = ("parts", 3, ("speak",), ("glance", True), (), None, ("tick", 10 ** 5000))
        for error in (KnowError, *OTHERS):
            for at, value in enumerate(values):
                with self.subTest(error=error.__name__, at=at):
                    self.assertIs(error(value).value, value)
                    self.assertIs(error(value=value).value, value)

    def test_value_is_needed(self):
        for error in (KnowError, *OTHERS):
            with self.assertRaises(TypeError):
                error()

    def test_each_is_caught_as_its_bases(self):
        for error in OTHERS:
            for base in (error, KnowError, ValueError):
                with self.assertRaises(base) as caught:
                    raise error(7)
                self.assertEqual(caught.exception.value, 7)
                self.assertIs(type(caught.exception), error)


if __name__ == "__main__":
    unittest.main()
