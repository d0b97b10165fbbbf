import unittest

from lumpplans import errors
from tests.samples import NO_TUPLES

PLAIN = ("Alike", "TooGreat", "TooMany", "NothingDone")
WITH_PATH = ("BadShape", "BadTable", "BadPlan")
WITH_VALUE = (
    ("NoCut", "counter"), ("Unlike", "number"), ("BadPlace", "number"), ("BadText", "place"),
    ("BadAct", "word"),
)


class ErrorsTest(unittest.TestCase):
    def test_bases(self):
        self.assertEqual(errors.LumpError.__bases__, (ValueError,))
        self.assertEqual(errors.NameMissing.__bases__, (LookupError,))
        self.assertEqual(errors.UnknownName.__bases__, (errors.NameMissing,))
        for name in PLAIN + WITH_PATH + tuple(name for name, _ in WITH_VALUE):
            self.assertEqual(getattr(errors, name).__bases__, (errors.LumpError,), name)
        self.assertFalse(issubclass(errors.LumpError, LookupError))
        self.assertFalse(issubclass(errors.UnknownName, ValueError))

    def test_all_are_defined_in_their_file(self):
        names = [name for name in vars(errors) if not name.startswith("_")]
        self.assertEqual(len(names), 15)
        for name in names:
            self.assertEqual(getattr(errors, name).__module__, "lumpplans.errors")

    def test_without_arguments(self):
        for name in PLAIN + ("LumpError", "NameMissing"):
            error = getattr(errors, name)
            with self.assertRaises(error):
                raise error()

    def test_path_is_a_tuple(self):
        for name in WITH_PATH:
            error = getattr(errors, name)
            for path in ([], [0, 1], ["a", None, []], (), (0, 1), (10 ** 40, {})):
                made = error(path)
                self.assertIs(type(made.path), tuple)
                self.assertEqual(made.path, tuple(path))
                with self.assertRaises(errors.LumpError):
                    raise made

    def test_values_are_kept_as_they_are(self):
        cases = [(getattr(errors, name), attribute) for name, attribute in WITH_VALUE]
        for error, attribute in cases + [(errors.UnknownName, "name")]:
            for value in NO_TUPLES + ((), ("size",), ([1], [2])):
                self.assertIs(getattr(error(value), attribute), value)

    def test_path_is_no_list_of_the_caller(self):
        path = [0, 1]
        made = errors.BadPlan(path)
        path.append(2)
        self.assertEqual(made.path, (0, 1))


if __name__ == "__main__":
    unittest.main()
