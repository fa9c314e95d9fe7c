"""The error classes of both sections of the interface."""

import unittest

from seerings import errors

WITHOUT = (
    "InvalidDrawer", "UnknownPlace", "InvalidRule", "InvalidHeading", "InvalidWay", "InvalidNumber", "NoLoss",
    "NoOrder", "InvalidName", "UnknownName", "NoPair", "Ended", "TooLong",
)
WITH = {
    "InvalidCard": ("part",), "InvalidLog": ("index",), "InvalidTally": ("index",), "InvalidRequests": ("index",),
    "InvalidRows": ("index",), "InvalidOperation": ("index",), "InvalidText": ("row", "word"),
    "DecodeError": ("offset",), "ScriptError": ("row",), "ExecutionFailed": ("row",),
}


class ErrorTest(unittest.TestCase):

    def test_the_base_class_is_a_value_error(self):
        self.assertEqual(errors.SeeError.__bases__, (ValueError,))

    def test_all_others_are_direct_subclasses(self):
        for name in (*WITHOUT, *WITH):
            self.assertEqual(getattr(errors, name).__bases__, (errors.SeeError,), name)

    def test_there_are_no_others(self):
        classes = {name for name, value in vars(errors).items() if isinstance(value, type)}
        self.assertEqual(classes, {"SeeError", *WITHOUT, *WITH})

    def test_errors_without_attributes(self):
        for name in WITHOUT:
            self.assertEqual(vars(getattr(errors, name)()), {}, name)

    def test_attributes_are_set(self):
        for name, attributes in WITH.items():
            given = tuple(range(3, 3 + len(attributes)))
            error = getattr(errors, name)(*given)
            self.assertEqual(vars(error), dict(zip(attributes, given)), name)

    def test_each_one_is_caught_as_the_base_class(self):
        for name in WITHOUT:
            with self.assertRaises(errors.SeeError):
                raise getattr(errors, name)()
        with self.assertRaises(errors.SeeError):
            raise errors.InvalidText(1, 2)


if __name__ == "__main__":
    unittest.main()
