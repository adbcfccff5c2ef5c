"""The errors of the interface's stage 1."""

import unittest

from cutrelays import errors

WITH_FIELDS = {
    "TooMany": {"limit": 60},
    "SyntaxProblem": {"line": 1, "column": 17},
    "NoRelay": {"place": -1},
    "Unsafe": {"chain": (0, 1), "sending": (6, "close", None, 6, "shut")},
}
WITH_MESSAGE = [
    "NoSending", "NoBounds", "NoSender", "NoWord", "NoChange", "NoMend",
    "NoName", "NoLine", "NoEvent", "NoMark", "Mismatch", "InvalidCommand",
]


def made_errors():
    """Return one error of each class but RelayError, by the class's name."""
    made = {name: getattr(errors, name)(*fields.values()) for name, fields in WITH_FIELDS.items()}
    made.update({name: getattr(errors, name)("some message") for name in WITH_MESSAGE})
    return made


class Families(unittest.TestCase):
    def test_relay_error_is_a_value_error(self):
        self.assertEqual(errors.RelayError.__bases__, (ValueError,))
        self.assertIn("some message", str(errors.RelayError("some message")))

    def test_there_are_sixteen_others(self):
        self.assertEqual(len(made_errors()), 16)

    def test_each_is_directly_under_relay_error(self):
        for name in made_errors():
            with self.subTest(name=name):
                kind = getattr(errors, name)
                self.assertEqual(kind.__name__, name)
                self.assertEqual(kind.__module__, "cutrelays.errors")
                self.assertEqual(kind.__bases__, (errors.RelayError,))

    def test_each_is_caught_by_its_own_name_and_those_above_alone(self):
        made = made_errors()
        for name, error in made.items():
            taken = [other for other in made if isinstance(error, getattr(errors, other))]
            with self.subTest(name=name):
                self.assertEqual(taken, [name])
                for above in (errors.RelayError, ValueError, getattr(errors, name)):
                    with self.assertRaises(above):
                        raise error


class Contents(unittest.TestCase):
    def test_fields_have_the_arguments(self):
        for name, fields in WITH_FIELDS.items():
            error = getattr(errors, name)(*fields.values())
            for field, value in fields.items():
                with self.subTest(name=name, field=field):
                    self.assertEqual(getattr(error, field), value)

    def test_fields_are_told_apart(self):
        self.assertEqual(errors.SyntaxProblem(1, 2).line, 1)
        self.assertEqual(errors.SyntaxProblem(1, 2).column, 2)
        self.assertEqual(errors.Unsafe(("a",), (0, "close", None, 0, "open")).chain, ("a",))

    def test_each_argument_is_needed(self):
        for name, fields in WITH_FIELDS.items():
            with self.subTest(name=name), self.assertRaises(TypeError):
                getattr(errors, name)(*list(fields.values())[1:])

    def test_the_others_are_made_with_a_message(self):
        for name in WITH_MESSAGE:
            with self.subTest(name=name):
                self.assertIn("some message", str(getattr(errors, name)("some message")))


if __name__ == "__main__":
    unittest.main()
