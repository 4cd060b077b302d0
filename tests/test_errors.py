"""The errors: [92] and [52]."""

import ast
import os
import unittest

from sharefold import errors, texterrors

PLAIN = """InvalidTerm InvalidNode NotRedex InvalidWay InvalidNumber InvalidBook InvalidWord InvalidFold InvalidFamily
    InvalidNet InvalidEdge InvalidContext InvalidEnd InvalidLot InvalidRun InvalidNumbers InvalidType InvalidTyping
    InvalidFillings NoTypes NotAffine InvalidProgram InvalidPatterns InvalidValue InvalidHand InvalidSchedule""".split()


def classes_in(module):
    with open(os.path.abspath(module.__file__), encoding="utf-8") as stream:
        tree = ast.parse(stream.read())
    return [node.name for node in tree.body if isinstance(node, ast.ClassDef)]


class ErrorsTest(unittest.TestCase):

    def test_base_class(self):
        self.assertEqual(errors.ShareError.__bases__, (ValueError,))

    def test_direct_subclasses(self):
        for name in PLAIN + ["TooMany", "NotRead"]:
            self.assertEqual(getattr(errors, name).__bases__, (errors.ShareError,), name)

    def test_no_other_classes(self):
        self.assertEqual(sorted(classes_in(errors)), sorted(PLAIN + ["ShareError", "TooMany", "NotRead"]))
        self.assertEqual(sorted(classes_in(texterrors)), ["BadLine", "BadText", "InvalidText", "NotWritable"])

    def test_attributes(self):
        self.assertEqual(errors.TooMany(600).limit, 600)
        self.assertEqual(errors.NotRead((3, 1)).end, (3, 1))
        self.assertEqual(errors.NotRead(()).end, ())
        self.assertEqual(texterrors.BadText(7).place, 7)
        self.assertEqual(texterrors.BadLine(0).index, 0)

    def test_errors_of_texts(self):
        for name in ["InvalidText", "BadText", "BadLine", "NotWritable"]:
            self.assertEqual(getattr(texterrors, name).__bases__, (errors.ShareError,), name)

    def test_caught_as_the_base_class(self):
        for error in [errors.InvalidTerm("x"), errors.TooMany(1), errors.NotRead(()), texterrors.BadText(1)]:
            with self.assertRaises(errors.ShareError):
                raise error


if __name__ == "__main__":
    unittest.main()
