"""[3]: the nine classes of errors."""

import unittest

from toldatlast import errors

NAMES = ["TellError", "InvalidName", "InvalidStatement", "NothingHandled", "UnknownStep", "UnknownPlace", "RunEnded",
         "NothingToUndo", "Unreadable"]


class ErrorsTest(unittest.TestCase):
    def classes(self):
        return [getattr(errors, name) for name in NAMES]

    def test_the_value_itself_is_kept(self):
        for value in [0, -3, 10 ** 30, "", "a b", b"x", [], [0, 2, 0], (1, [2]), {"a": 1}, None, object()]:
            for made in self.classes():
                self.assertIs(made(value).value, value)
                self.assertIs(made(value=value).value, value)

    def test_one_argument_and_no_other(self):
        for made in self.classes():
            with self.assertRaises(TypeError):
                made()
            with self.assertRaises(TypeError):
                made(1, 2)
            with self.assertRaises(TypeError):
                made(place=[0])

    def test_base_classes(self):
        own = self.classes()
        for made in own:
            self.assertTrue(issubclass(made, ValueError))
            self.assertTrue(issubclass(made, errors.TellError))
            self.assertEqual([base for base in made.__mro__[1:] if base in own],
                             [] if made is errors.TellError else [errors.TellError])

    def test_caught_by_their_own_class_only(self):
        for made in self.classes():
            for other in self.classes():
                try:
                    raise made("x")
                except other as error:
                    self.assertIn(other, (made, errors.TellError))
                    self.assertEqual(error.value, "x")
                except errors.TellError:
                    self.assertNotIn(other, (made, errors.TellError))

    def test_defined_in_this_file_with_a_constructor_of_their_own(self):
        for made in self.classes():
            self.assertEqual(made.__module__, "toldatlast.errors")
            self.assertIn("__init__", vars(made))

    def test_the_value_may_be_assigned_anew(self):
        error = errors.UnknownPlace([1])
        error.value = 2
        self.assertEqual(error.value, 2)


if __name__ == "__main__":
    unittest.main()
