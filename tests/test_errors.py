import unittest

from tapline import errors


class Errors(unittest.TestCase):
    def test_the_tree_of_the_classes(self):
        below = {
            errors.TapError: ValueError,
            errors.TextError: errors.TapError,
            errors.BadCharacter: errors.TextError,
            errors.BadNumber: errors.TextError,
            errors.BadQuote: errors.TextError,
            errors.Unexpected: errors.TextError,
            errors.ScriptError: errors.TapError,
            errors.DoubleName: errors.ScriptError,
            errors.UnknownName: errors.ScriptError,
            errors.WrongKind: errors.ScriptError,
            errors.WrongCount: errors.ScriptError,
            errors.CodeError: errors.TapError,
            errors.BadStep: errors.CodeError,
            errors.BadBytes: errors.CodeError,
            errors.BadText: errors.CodeError,
            errors.BadLine: errors.TapError,
        }
        for one, base in below.items():
            with self.subTest(one=one.__name__):
                self.assertEqual(one.__bases__, (base,))

    def test_errors_of_texts_have_a_place(self):
        for one in (errors.TextError, errors.BadCharacter, errors.BadNumber, errors.BadQuote, errors.Unexpected):
            error = one(3, 14)
            self.assertEqual((error.row, error.column), (3, 14))

    def test_errors_of_scripts_have_a_word(self):
        for one in (errors.ScriptError, errors.DoubleName, errors.UnknownName, errors.WrongKind, errors.WrongCount):
            self.assertEqual(one("mod").word, "mod")

    def test_errors_of_code_and_of_lines(self):
        self.assertEqual(errors.BadText(7).row, 7)
        for one in (errors.BadStep, errors.BadBytes, errors.BadLine):
            self.assertIsInstance(one(), errors.TapError)

    def test_each_can_be_caught_as_a_value_error(self):
        for error in (errors.BadNumber(1, 1), errors.WrongKind("+"), errors.BadStep(), errors.BadLine()):
            with self.assertRaises(ValueError):
                raise error


if __name__ == "__main__":
    unittest.main()
