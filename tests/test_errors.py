"""The classes of the errors (point 0.2 and the interface)."""

import unittest

from signoff import errors

PARENTS = {
    "SignoffError": ValueError,
    "BadArgument": errors.SignoffError,
    "Refused": errors.SignoffError,
    "BadToken": errors.SignoffError,
    "BadSyntax": errors.SignoffError,
    "TooDeep": errors.SignoffError,
    "DeckError": errors.SignoffError,
    "UnknownName": errors.DeckError,
    "NameClash": errors.DeckError,
    "WrongCount": errors.DeckError,
    "BadRange": errors.DeckError,
    "BadNet": errors.DeckError,
    "Recursive": errors.DeckError,
    "Looped": errors.SignoffError,
    "TooLarge": errors.SignoffError,
    "BadReport": errors.SignoffError,
    "BadRecord": errors.SignoffError,
}
WITH_ARGUMENT = ("BadToken", "BadSyntax", "Looped")


class ErrorClasses(unittest.TestCase):
    def test_each_class_has_its_base_class(self):
        for title, parent in PARENTS.items():
            with self.subTest(title):
                self.assertEqual(getattr(errors, title).__bases__, (parent,))

    def test_there_are_no_other_classes(self):
        found = {title for title, thing in vars(errors).items() if isinstance(thing, type)}
        self.assertEqual(found, set(PARENTS))

    def test_all_can_be_raised_with_a_message_or_without_one(self):
        for title in PARENTS:
            if title not in WITH_ARGUMENT:
                with self.subTest(title):
                    self.assertEqual(str(getattr(errors, title)("why")), "why")
                    self.assertRaises(ValueError, self._throw, getattr(errors, title)())

    def test_attributes(self):
        self.assertEqual(errors.BadToken(7).at, 7)
        self.assertEqual(errors.BadToken(at=7).at, 7)
        self.assertEqual(errors.BadSyntax(0).at, 0)
        self.assertEqual(errors.BadSyntax(at=3).at, 3)
        self.assertEqual(errors.Looped(("a", "b")).names, ("a", "b"))
        self.assertEqual(errors.Looped(names=("a",)).names, ("a",))

    def test_errors_with_an_attribute_have_a_text(self):
        for error in (errors.BadToken(7), errors.BadSyntax(0), errors.Looped(("a",))):
            self.assertTrue(str(error))

    @staticmethod
    def _throw(error):
        raise error


if __name__ == "__main__":
    unittest.main()
