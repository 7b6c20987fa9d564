"""The interface of wholedrops/errors.py, and what point 2 says of the refusals' classes."""

import inspect
import unittest
from unittest import mock

from wholedrops import errors

# The class, its fields with values, and what it tells.
REFUSALS = (
    ("BadCount", (("what", "size"), ("count", 0)), "refused badcount"),
    ("NoJar", (("jar", 7),), "refused nojar"),
    ("SameJar", (("jar", 2),), "refused samejar"),
    ("Sizes", (("a", 0), ("b", 1)), "refused sizes"),
    ("BadStart", (("jar", 3),), "refused badstart"),
    ("OtherJars", (), "refused otherjars"),
    ("Wide", (("count", 25),), "refused wide"),
    ("NoName", (("name", "9a"),), "refused noname"),
    ("NoRow", (("name", "a9"),), "refused norow"),
    ("NoBack", (), "refused noback"),
    ("BadText", (("place", 4),), "refused badtext"),
)


class RefusalsTest(unittest.TestCase):
    def test_the_eleven_are_all_there_are(self):
        defined = [name for name, value in vars(errors).items() if inspect.isclass(value)]
        self.assertEqual(sorted(defined), sorted([name for name, _, _ in REFUSALS] + ["DropsError"]))

    def test_fields_by_place(self):
        for name, fields, told in REFUSALS:
            with self.subTest(name):
                refusal = getattr(errors, name)(*[value for _, value in fields])
                self.assertEqual([getattr(refusal, field) for field, _ in fields], [value for _, value in fields])
                self.assertEqual(refusal.told(), told)

    def test_fields_by_name(self):
        for name, fields, told in REFUSALS:
            with self.subTest(name):
                refusal = getattr(errors, name)(**dict(fields))
                self.assertEqual([getattr(refusal, field) for field, _ in fields], [value for _, value in fields])
                self.assertEqual(refusal.told(), told)

    def test_each_has_just_its_fields(self):
        for name, fields, _ in REFUSALS:
            with self.subTest(name):
                refusal = getattr(errors, name)(*[value for _, value in fields])
                self.assertEqual(vars(refusal), dict(fields))

    def test_wrong_fields_are_not_taken(self):
        for name, fields, _ in REFUSALS:
            with self.subTest(name):
                with self.assertRaises(TypeError):
                    getattr(errors, name)(**dict(fields), other=1)
        with self.assertRaises(TypeError):
            errors.BadCount("size")

    def test_each_stands_under_the_base_alone(self):
        for name, _, _ in REFUSALS:
            with self.subTest(name):
                refusal = getattr(errors, name)
                self.assertTrue(issubclass(refusal, errors.DropsError))
                for other, _, _ in REFUSALS:
                    self.assertEqual(issubclass(refusal, getattr(errors, other)), name == other)

    def test_the_base_is_a_value_error(self):
        self.assertTrue(issubclass(errors.DropsError, ValueError))

    def test_each_is_caught_as_the_base_and_as_a_value_error(self):
        for base in (errors.DropsError, ValueError):
            for name, fields, _ in REFUSALS:
                with self.subTest(name):
                    with self.assertRaises(base):
                        raise getattr(errors, name)(*[value for _, value in fields])

    def test_each_is_defined_here_with_its_own_told(self):
        for name, _, _ in REFUSALS:
            with self.subTest(name):
                refusal = getattr(errors, name)
                self.assertEqual(refusal.__module__, "wholedrops.errors")
                self.assertIn("told", vars(refusal))

    def test_the_base_has_its_own_told(self):
        self.assertIn("told", vars(errors.DropsError))
        self.assertEqual(errors.DropsError().told(), "refused dropserror")
        self.assertEqual(errors.DropsError.__module__, "wholedrops.errors")

    def test_the_eleven_tell_their_own_where_the_base_tells_otherwise(self):
        with mock.patch.object(errors.DropsError, "told", lambda refusal: "other"):
            for name, fields, told in REFUSALS:
                self.assertEqual(getattr(errors, name)(**dict(fields)).told(), told)


if __name__ == "__main__":
    unittest.main()
