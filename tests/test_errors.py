"""The errors: point 2 and the section of stage 1."""

import copy
import pickle
import unittest

from stemrules import errors

WITH_MESSAGE = ("NoName", "NoBook", "NoFiles", "NoRule", "NoMark", "Mismatch", "InvalidCommand")


class Errors(unittest.TestCase):
    def test_rule_error_is_a_value_error_with_a_message(self):
        self.assertEqual(errors.RuleError.__bases__, (ValueError,))
        self.assertEqual(str(errors.RuleError("told")), "told")

    def test_all_others_are_directly_under_it(self):
        for word in WITH_MESSAGE + ("TooMany", "SyntaxProblem"):
            kind = getattr(errors, word)
            self.assertEqual(kind.__bases__, (errors.RuleError,), word)
            self.assertEqual((kind.__name__, kind.__module__), (word, "stemrules.errors"))

    def test_messages(self):
        for word in WITH_MESSAGE:
            error = getattr(errors, word)("told")
            self.assertEqual((str(error), error.args), ("told", ("told",)), word)

    def test_fields(self):
        self.assertEqual(errors.TooMany(12).limit, 12)
        problem = errors.SyntaxProblem(3, 7)
        self.assertEqual((problem.line, problem.column), (3, 7))

    def test_fields_stand_in_the_text(self):
        self.assertIn("12", str(errors.TooMany(12)))
        self.assertIn("3", str(errors.SyntaxProblem(3, 7)))
        self.assertIn("7", str(errors.SyntaxProblem(3, 7)))

    def test_fields_are_asked_for(self):
        for word, many in (("TooMany", 1), ("SyntaxProblem", 2)):
            for wrong in (many - 1, many + 1):
                with self.assertRaises(TypeError):
                    getattr(errors, word)(*[1] * wrong)

    def test_copies_keep_the_fields(self):
        for twin in (copy.copy, lambda error: pickle.loads(pickle.dumps(error))):
            self.assertEqual(twin(errors.TooMany(12)).limit, 12)
            problem = twin(errors.SyntaxProblem(3, 7))
            self.assertEqual((problem.line, problem.column), (3, 7))

    def test_caught_as_rule_error_and_as_value_error(self):
        for kind in (errors.RuleError, ValueError):
            with self.assertRaises(kind):
                raise errors.NoName("told")
            with self.assertRaises(kind):
                raise errors.TooMany(6)


if __name__ == "__main__":
    unittest.main()
