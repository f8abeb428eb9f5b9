"""Point [2], and the interface of nobodyspeaks/errors.py."""

import unittest

from nobodyspeaks import errors
from nobodyspeaks.errors import BadValue, Busy, Misfit, Missing, Refused, SpeakError

BELOW = [Misfit, BadValue, Missing, Busy, Refused]


class ClassesTest(unittest.TestCase):
    def test_speak_error_is_below_value_error(self):
        self.assertTrue(issubclass(SpeakError, ValueError))
        self.assertIsNot(SpeakError, ValueError)

    def test_each_is_below_speak_error(self):
        for kind in BELOW:
            with self.subTest(kind=kind.__name__):
                self.assertTrue(issubclass(kind, SpeakError))
                self.assertIsNot(kind, SpeakError)

    def test_none_is_below_another_one(self):
        for one in BELOW:
            for two in BELOW:
                if one.__name__ != two.__name__:
                    with self.subTest(one=one.__name__, two=two.__name__):
                        self.assertFalse(issubclass(one, two))

    def test_each_is_defined_here_under_its_name(self):
        for name in ("SpeakError", "Misfit", "BadValue", "Missing", "Busy", "Refused"):
            with self.subTest(name=name):
                kind = getattr(errors, name)
                self.assertEqual(kind.__name__, name)
                self.assertEqual(kind.__module__, "nobodyspeaks.errors")


class RaisedTest(unittest.TestCase):
    def test_each_is_caught_as_what_it_is_alone(self):
        for kind in (BadValue, Missing, Busy, Refused):
            with self.subTest(kind=kind.__name__):
                self.assertIs(self.caught_as(kind("why")), kind)
        self.assertIs(self.caught_as(Misfit(0)), Misfit)

    def caught_as(self, error):
        for kind in BELOW:
            try:
                raise error
            except kind:
                return kind
            except SpeakError:
                continue
        return None

    def test_a_misfit_that_is_raised_has_the_field_at(self):
        for at in (0, 1, 17, 1000):
            for kind in (Misfit, SpeakError, ValueError):
                with self.subTest(at=at, kind=kind.__name__):
                    with self.assertRaises(kind) as caught:
                        raise Misfit(at)
                    self.assertEqual(caught.exception.at, at)
                    self.assertIs(type(caught.exception.at), int)

    def test_each_misfit_has_its_own_at(self):
        one, two = Misfit(3), Misfit(4)
        self.assertEqual((one.at, two.at), (3, 4))


if __name__ == "__main__":
    unittest.main()
