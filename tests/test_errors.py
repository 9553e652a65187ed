"""The interface of endbook/errors.py: names, bases, raising and taking."""

import unittest

from endbook import errors
from endbook.errors import EndError, NoPlace, NoWord


class ErrorClasses(unittest.TestCase):
    def test_names(self):
        self.assertEqual(EndError.__name__, "EndError")
        self.assertEqual(NoWord.__name__, "NoWord")
        self.assertEqual(NoPlace.__name__, "NoPlace")

    def test_they_live_in_errors(self):
        for kind in (EndError, NoWord, NoPlace):
            self.assertEqual(kind.__module__, "endbook.errors")
            self.assertIs(getattr(errors, kind.__name__), kind)

    def test_bases(self):
        self.assertEqual(EndError.__bases__, (ValueError,))
        self.assertEqual(NoWord.__bases__, (EndError,))
        self.assertEqual(NoPlace.__bases__, (EndError,))

    def test_each_is_taken_by_itself_and_each_of_its_bases(self):
        for kind in (EndError, NoWord, NoPlace):
            for base in kind.__mro__:
                if not issubclass(base, BaseException):
                    continue
                with self.subTest(kind=kind, base=base):
                    try:
                        raise kind("some words")
                    except base as e:
                        self.assertIs(type(e), kind)
                        self.assertEqual(str(e), "some words")

    def test_each_can_be_raised_without_words(self):
        for kind in (EndError, NoWord, NoPlace):
            with self.subTest(kind=kind), self.assertRaises(kind):
                raise kind()

    def test_the_two_refusals_are_not_taken_for_each_other(self):
        self.assertFalse(issubclass(NoWord, NoPlace))
        self.assertFalse(issubclass(NoPlace, NoWord))
        self.assertFalse(issubclass(EndError, (NoWord, NoPlace)))


if __name__ == "__main__":
    unittest.main()
