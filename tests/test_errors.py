"""Conventions [2] and the interface: the error classes, their fields and told()."""

import inspect
import unittest

from namewalk import errors

TOLD = {
    "NoTree": (("why", "node"), "refused notree"),
    "NoNode": (("node",), "refused nonode"),
    "BadText": (("place",), "refused badtext"),
    "NoPath": ((), "refused nopath"),
    "NoOwner": (("owner",), "refused noowner"),
    "NoDeed": (("why",), "refused nodeed"),
    "NoRow": (("index", "why"), "refused norow"),
    "NoWeaving": ((), "refused noweaving"),
    "Large": (("count",), "refused large"),
    "Busy": ((), "refused busy"),
    "Idle": ((), "refused idle"),
    "Forbidden": ((), "refused forbidden"),
    "NoBack": ((), "refused noback"),
}


class ErrorsTest(unittest.TestCase):
    def each(self):
        return [(getattr(errors, name), fields, told) for name, (fields, told) in TOLD.items()]

    def test_fields_by_position(self):
        for cls, fields, _ in self.each():
            error = cls(*range(7, 7 + len(fields)))
            self.assertEqual([getattr(error, field) for field in fields], list(range(7, 7 + len(fields))))

    def test_fields_by_name(self):
        for cls, fields, _ in self.each():
            error = cls(**{field: field + "!" for field in reversed(fields)})
            self.assertEqual([getattr(error, field) for field in fields], [field + "!" for field in fields])

    def test_fields_are_kept_as_given(self):
        for cls, fields, _ in self.each():
            for given in ([1, ["a"]], None, True, {"a": 1}, 10 ** 5000):
                error = cls(*[given for _ in fields])
                for field in fields:
                    self.assertIs(getattr(error, field), given)

    def test_told(self):
        for cls, fields, told in self.each():
            self.assertEqual(cls(*[0 for _ in fields]).told(), told)
            self.assertEqual(cls(**{field: "x" for field in fields}).told(), told)

    def test_the_base_class_tells_its_name_too(self):
        self.assertEqual(errors.WalkError().told(), "refused walkerror")

    def test_told_is_defined_in_each_class(self):
        for cls, _, _ in self.each():
            self.assertIn("told", vars(cls))

    def test_each_derives_directly_from_the_base(self):
        self.assertEqual(errors.WalkError.__bases__, (ValueError,))
        for cls, _, _ in self.each():
            self.assertEqual(cls.__bases__, (errors.WalkError,))

    def test_each_is_raised_and_caught_as_itself_and_as_its_bases(self):
        for cls, fields, _ in self.each():
            for caught in (cls, errors.WalkError, ValueError):
                with self.assertRaises(caught):
                    raise cls(*[0 for _ in fields])

    def test_none_is_an_error_of_another_class(self):
        for cls, fields, _ in self.each():
            error = cls(*[0 for _ in fields])
            others = [getattr(errors, name) for name in TOLD if name != cls.__name__]
            self.assertFalse(isinstance(error, tuple(others)))
            self.assertFalse(isinstance(error, (TypeError, LookupError, ArithmeticError)))

    def test_there_are_no_others(self):
        classes = [name for name, _ in inspect.getmembers(errors, inspect.isclass)]
        self.assertEqual(sorted(classes), sorted(list(TOLD) + ["WalkError"]))


if __name__ == "__main__":
    unittest.main()
