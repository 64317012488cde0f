import inspect
import unittest

from lydite import errors

NAMES = (
    "TooLarge", "NoPlace", "NoRedex", "BadNames", "BadText", "OutOfSteps",
    "BadCrowd", "AllEqual", "NoKind", "NoNumber", "NoName", "BadClaim",
)


class ErrorClasses(unittest.TestCase):
    def test_base_derives_from_value_error(self):
        self.assertEqual(errors.LyditeError.__bases__, (ValueError,))

    def test_each_error_derives_from_the_base_alone(self):
        for name in NAMES:
            with self.subTest(name=name):
                self.assertEqual(getattr(errors, name).__bases__, (errors.LyditeError,))

    def test_no_error_derives_from_another_one(self):
        for name in NAMES:
            for other in NAMES:
                if name != other:
                    self.assertFalse(issubclass(getattr(errors, name), getattr(errors, other)))

    def test_all_names_are_different_classes_of_this_file(self):
        found = [name for name, value in vars(errors).items() if inspect.isclass(value)]
        self.assertEqual(sorted(found), sorted(NAMES + ("LyditeError",)))
        for name in found:
            self.assertEqual(getattr(errors, name).__name__, name)
            self.assertEqual(getattr(errors, name).__module__, "lydite.errors")

    def test_each_error_is_caught_by_its_name_and_by_the_base(self):
        for name in NAMES:
            kind = getattr(errors, name)
            error = kind(3) if name == "BadText" else kind("words")
            for wanted in (kind, errors.LyditeError, ValueError):
                with self.assertRaises(wanted):
                    raise error


class BadTextField(unittest.TestCase):
    def test_at_is_the_given_index(self):
        for at in (0, 1, 7, 1000):
            self.assertEqual(errors.BadText(at).at, at)

    def test_at_can_be_named(self):
        self.assertEqual(errors.BadText(at=5).at, 5)

    def test_at_belongs_to_each_object(self):
        first = errors.BadText(4)
        second = errors.BadText(9)
        self.assertEqual((first.at, second.at), (4, 9))
        self.assertFalse(hasattr(errors.BadText, "at"))

    def test_at_is_there_when_the_error_is_caught(self):
        with self.assertRaises(errors.BadText) as caught:
            raise errors.BadText(12)
        self.assertEqual(caught.exception.at, 12)
        self.assertIsInstance(str(caught.exception), str)


if __name__ == "__main__":
    unittest.main()
