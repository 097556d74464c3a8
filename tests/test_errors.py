import copy
import inspect
import pickle
import unittest

from answercut import errors
from answercut.errors import AnswerError, InvalidCommand, NameTaken, NoAnswer, NoLine, NoMark, NoPrice, NoQuestion
from answercut.errors import NoRow, NoTable, NotNested, RowTaken, SyntaxProblem, TooMany

WITH_MESSAGE = [
    NoTable, NoRow, RowTaken, NoQuestion, NoAnswer, NoPrice, NameTaken, NoMark, InvalidCommand,
]
WITH_FIELDS = [
    (SyntaxProblem, ("line", "column"), (3, 14)),
    (TooMany, ("limit",), (2000,)),
    (NoLine, ("paper",), ((("r", "s", "t"), (("r", "s"), ("r", "t"), ("s", "t"))),)),
    (NotNested, ("paper",), (("x", "y", ("c", "a", "d")),)),
]


class ErrorsTest(unittest.TestCase):
    def test_base_is_a_value_error(self):
        self.assertEqual(AnswerError.__bases__, (ValueError,))

    def test_each_error_stands_directly_under_the_base(self):
        for made in WITH_MESSAGE + [told[0] for told in WITH_FIELDS]:
            with self.subTest(made.__name__):
                self.assertEqual(made.__bases__, (AnswerError,))

    def test_each_error_is_defined_in_this_file(self):
        here = {
            thing for _, thing in inspect.getmembers(errors, inspect.isclass) if thing.__module__ == errors.__name__
        }
        self.assertEqual(here, {AnswerError, *WITH_MESSAGE, *[told[0] for told in WITH_FIELDS]})
        self.assertEqual(len(here), 14)

    def test_message(self):
        for made in WITH_MESSAGE + [AnswerError]:
            with self.subTest(made.__name__):
                self.assertEqual(str(made("what is wrong")), "what is wrong")

    def test_fields(self):
        for made, names, values in WITH_FIELDS:
            with self.subTest(made.__name__):
                error = made(*values)
                self.assertEqual([getattr(error, name) for name in names], list(values))
                self.assertEqual(list(vars(error)), list(names))

    def test_raised_error_is_no_other_of_the_classes(self):
        raised = [made("x") for made in WITH_MESSAGE] + [made(*values) for made, _, values in WITH_FIELDS]
        for error in raised:
            kinds = [kind for kind in WITH_MESSAGE + [told[0] for told in WITH_FIELDS] if isinstance(error, kind)]
            with self.subTest(type(error).__name__):
                self.assertEqual(kinds, [type(error)])
                with self.assertRaises(AnswerError):
                    raise error

    def test_copies_keep_the_fields(self):
        for made, names, values in WITH_FIELDS:
            for copied in (copy.copy(made(*values)), pickle.loads(pickle.dumps(made(*values)))):
                with self.subTest(made.__name__):
                    self.assertEqual([getattr(copied, name) for name in names], list(values))


if __name__ == "__main__":
    unittest.main()
