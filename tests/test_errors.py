"""The classes of errors and what a refusal carries."""

import unittest

from sameanswer import errors
from sameanswer.errors import AnswerError, Refused

NAMES = (
    "Refused", "InvalidArgument", "TransactionOpen", "NoTransaction", "DiskFull", "PowerOff", "DatabaseOpen",
    "DatabaseClosed", "DamagedData",
)
PROBLEMS = (
    ("kinds",), ("columns",), ("no table", "t"), ("exists", (1, "x")), ("exists", "t"), ("no column", "s", 3), (),
)


class ErrorTree(unittest.TestCase):
    def test_base_is_a_value_error(self):
        self.assertTrue(issubclass(AnswerError, ValueError))
        for name in NAMES:
            self.assertFalse(issubclass(AnswerError, getattr(errors, name)), name)

    def test_each_is_an_answer_error_and_a_value_error(self):
        for name in NAMES:
            self.assertTrue(issubclass(getattr(errors, name), AnswerError), name)
            self.assertTrue(issubclass(getattr(errors, name), ValueError), name)

    def test_each_is_none_of_the_others(self):
        for name in NAMES:
            for other in NAMES:
                same = issubclass(getattr(errors, name), getattr(errors, other))
                self.assertEqual(same, name == other, (name, other))

    def test_each_is_a_class_of_its_own_in_the_module(self):
        for name in ("AnswerError",) + NAMES:
            self.assertEqual(getattr(errors, name).__name__, name)
            self.assertEqual(getattr(errors, name).__module__, "sameanswer.errors")

    def test_a_raised_error_is_caught_by_each_of_its_classes_only(self):
        for name in NAMES:
            made = getattr(errors, name)
            for caught in (made, AnswerError, ValueError):
                with self.assertRaises(caught):
                    raise made("why")
            for other in NAMES:
                if other != name:
                    self.assertNotIsInstance(made("why"), getattr(errors, other))


class Refusals(unittest.TestCase):
    def test_the_problem_is_kept(self):
        for problem in PROBLEMS:
            self.assertEqual(Refused(problem).problem, problem)
            self.assertIsInstance(Refused(problem).problem, tuple)

    def test_the_argument_is_called_problem(self):
        self.assertEqual(Refused(problem=("kinds",)).problem, ("kinds",))

    def test_each_refusal_has_its_own_problem(self):
        first, second = Refused(("kinds",)), Refused(("columns",))
        self.assertEqual((first.problem, second.problem), (("kinds",), ("columns",)))

    def test_a_caught_refusal_has_its_problem(self):
        with self.assertRaises(AnswerError) as caught:
            raise Refused(("no table", "t"))
        self.assertEqual(caught.exception.problem, ("no table", "t"))


if __name__ == "__main__":
    unittest.main()
